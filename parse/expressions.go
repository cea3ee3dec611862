package parse

import "manorboy/api"

// The lowest level of expressions without if, and the highest level.
const (
	lowest  = 1
	highest = 10
)

// operator is how an operator is written, and which levels it makes and needs. One in front has its operand on the right.
type operator struct {
	text               string
	op                 int
	level, left, right int
}

// infixes are the operators between two operands.
var infixes = [...]operator{
	{"eqv", api.OpEqv, 1, 1, 2},
	{"imp", api.OpImp, 2, 2, 3},
	{"or", api.OpOr, 3, 3, 4},
	{"and", api.OpAnd, 4, 4, 5},
	{"<", api.OpLt, 6, 7, 7},
	{"<=", api.OpLe, 6, 7, 7},
	{"=", api.OpEq, 6, 7, 7},
	{"/=", api.OpNe, 6, 7, 7},
	{">=", api.OpGe, 6, 7, 7},
	{">", api.OpGt, 6, 7, 7},
	{"+", api.OpAdd, 7, 7, 8},
	{"-", api.OpSub, 7, 7, 8},
	{"*", api.OpMul, 8, 8, 9},
	{"/", api.OpDiv, 8, 8, 9},
	{"//", api.OpQuo, 8, 8, 9},
	{"^", api.OpPow, 9, 9, highest},
}

// prefixes are the operators in front of an operand. The sign + makes no part.
var prefixes = [...]operator{
	{"not", api.OpNot, 5, 0, 6},
	{"-", api.OpNeg, 7, 0, 8},
	{"+", 0, 7, 0, 8},
}

// infix returns the next token as an operator between two operands; one of the level 0, if it is none.
func (p *parser) infix() operator {
	for _, o := range infixes {
		if p.is(o.text) {
			return o
		}
	}
	return operator{}
}

// prefix returns the next token as an operator in front of an operand; one of the level 0, if it is none.
func (p *parser) prefix() operator {
	for _, o := range prefixes {
		if p.is(o.text) {
			return o
		}
	}
	return operator{}
}

func (p *parser) expression() api.Exp {
	from := p.at
	if !p.take("if") {
		return p.operation(lowest)
	}
	condition := p.operation(lowest)
	p.need("then")
	first := p.operation(lowest)
	p.need("else")
	second := p.expression()
	p.endPart(from)
	return api.Exp{Kind: api.ExIf, Args: []api.Exp{condition, first, second}}
}

// operation reads an expression of a level, or of a higher one, as far as it goes.
func (p *parser) operation(least int) api.Exp {
	from := p.at
	e, level := p.operand(least)
	for {
		o := p.infix()
		if o.level < least || level < o.left {
			return e
		}
		p.pass()
		e = api.Exp{Kind: api.ExTwo, Op: o.op, Args: []api.Exp{e, p.operation(o.right)}}
		level = o.level
		p.endPart(from)
	}
}

// operand reads what an operation of a level begins with: an operator in front and its operand, or a primary. It returns its level, too.
func (p *parser) operand(least int) (e api.Exp, level int) {
	from := p.at
	o := p.prefix()
	if o.level < least {
		return p.primary(), highest
	}
	p.pass()
	e = p.operation(o.right)
	if o.op != 0 {
		e = api.Exp{Kind: api.ExOne, Op: o.op, Args: []api.Exp{e}}
		p.endPart(from)
	}
	return e, o.level
}

// primary reads an expression of the highest level.
func (p *parser) primary() api.Exp {
	if p.isName() && !hasText(p.ahead(1), "(") {
		return p.target()
	}
	if p.take("(") {
		e := p.expression()
		p.need(")")
		return e
	}
	from := p.at
	e := p.literal()
	p.pass()
	if e.Kind == api.ExCall {
		e.Args = p.arguments("(", ")", api.MaxPars)
	}
	p.endPart(from)
	return e
}

// literal returns the expression that begins with the next token: all of it, or a call without its parameters.
func (p *parser) literal() api.Exp {
	t := p.ahead(0)
	switch {
	case t.Kind == api.TkInt:
		return api.Exp{Kind: api.ExInt, N: t.N}
	case t.Kind == api.TkReal:
		return api.Exp{Kind: api.ExReal, Real: t.Real}
	case t.Kind == api.TkString:
		return api.Exp{Kind: api.ExString, Text: t.Text}
	case t.Kind == api.TkName:
		return api.Exp{Kind: api.ExCall, Text: t.Text}
	case p.is("true"):
		return api.Exp{Kind: api.ExTrue}
	case p.is("false"):
		return api.Exp{Kind: api.ExFalse}
	}
	p.fail(someName())
	return api.Exp{}
}

// target reads a variable, or an element of an array or of a switch.
func (p *parser) target() api.Exp {
	from := p.at
	e := api.Exp{Kind: api.ExName, Text: p.name()}
	if p.is("[") {
		e.Kind, e.Args = api.ExIndex, p.arguments("[", "]", api.MaxDims)
	}
	p.endPart(from)
	return e
}

// arguments reads expressions, at most so many, between two signs.
func (p *parser) arguments(first, last string, most int) []api.Exp {
	p.need(first)
	list := separated(&p.source, ",", most, p.expression)
	p.need(last)
	return list
}
