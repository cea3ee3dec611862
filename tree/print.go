package tree

import (
	"strings"

	"manorboy/api"
	"manorboy/integer"
	"manorboy/lex"
	"manorboy/real"
)

// highest is the level of expressions that need no parentheses anywhere.
const highest = 10

// operator is how an operator is written: its sign, its level, and the levels that its operands need. An operator with one operand has this on its right.
type operator struct {
	sign               string
	level, left, right int
}

var operators = [...]operator{
	api.OpNeg: {"-", 7, 0, 8},
	api.OpNot: {"not", 5, 0, 6},
	api.OpAdd: {"+", 7, 7, 8},
	api.OpSub: {"-", 7, 7, 8},
	api.OpMul: {"*", 8, 8, 9},
	api.OpDiv: {"/", 8, 8, 9},
	api.OpQuo: {"//", 8, 8, 9},
	api.OpPow: {"^", 9, 9, highest},
	api.OpLt:  {"<", 6, 7, 7},
	api.OpLe:  {"<=", 6, 7, 7},
	api.OpEq:  {"=", 6, 7, 7},
	api.OpNe:  {"/=", 6, 7, 7},
	api.OpGe:  {">=", 6, 7, 7},
	api.OpGt:  {">", 6, 7, 7},
	api.OpAnd: {"and", 4, 4, 5},
	api.OpOr:  {"or", 3, 3, 4},
	api.OpImp: {"imp", 2, 2, 3},
	api.OpEqv: {"eqv", 1, 1, 2},
}

// types are the words of types. No type has no word; nothing is written for it.
var types = [...]string{
	api.TyNone: "",
	api.TyInt:  "integer",
	api.TyReal: "real",
	api.TyBool: "boolean",
}

// specifications are the words of specifications, behind that of the type.
var specifications = [...]string{
	api.SpNone:   "",
	api.SpVar:    "",
	api.SpArray:  "array",
	api.SpLabel:  "label",
	api.SpSwitch: "switch",
	api.SpString: "string",
	api.SpProc:   "procedure",
}

func levelOf(e api.Exp) int {
	switch e.Kind {
	case api.ExOne, api.ExTwo:
		return operators[e.Op].level
	case api.ExIf:
		return 0
	default:
		return highest
	}
}

// printer writes the tokens of valid parts.
type printer struct {
	text strings.Builder
	last string
}

// textOf returns the text that a function writes.
func textOf(write func(p *printer)) string {
	var p printer
	write(&p)
	return p.text.String()
}

// put writes tokens. An empty string is none.
func (p *printer) put(tokens ...string) {
	for _, token := range tokens {
		if token == "" {
			continue
		}
		if p.last != "" && areApart(p.last, token) {
			p.text.WriteByte(' ')
		}
		p.text.WriteString(token)
		p.last = token
	}
}

// areApart reports whether there is a blank between two tokens.
func areApart(last, next string) bool {
	if last == "(" || last == "[" {
		return false
	}
	switch next {
	case ",", ";", ":", ")", "]":
		return false
	case "(", "[":
		return !lex.IsName(last)
	default:
		return true
	}
}

// putList writes the elements of a list, and a sign between two of them.
func putList[T any](p *printer, list []T, sign string, write func(T)) {
	for i, x := range list {
		if i > 0 {
			p.put(sign)
		}
		write(x)
	}
}

func (p *printer) names(names []string) {
	putList(p, names, ",", func(name string) { p.put(name) })
}

func (p *printer) exps(exps []api.Exp) {
	putList(p, exps, ",", func(e api.Exp) { p.exp(e, 0) })
}

func (p *printer) statements(list []api.Stmt) {
	putList(p, list, ";", p.stmt)
}

// exp writes an expression at a place that asks for a level.
func (p *printer) exp(e api.Exp, level int) {
	if levelOf(e) >= level {
		p.bare(e)
		return
	}
	p.put("(")
	p.bare(e)
	p.put(")")
}

// bare writes an expression without parentheses around it.
func (p *printer) bare(e api.Exp) {
	switch e.Kind {
	case api.ExIndex:
		p.put(e.Text, "[")
		p.exps(e.Args)
		p.put("]")
	case api.ExCall:
		p.put(e.Text, "(")
		p.exps(e.Args)
		p.put(")")
	case api.ExOne:
		op := operators[e.Op]
		p.put(op.sign)
		p.exp(e.Args[0], op.right)
	case api.ExTwo:
		op := operators[e.Op]
		p.exp(e.Args[0], op.left)
		p.put(op.sign)
		p.exp(e.Args[1], op.right)
	case api.ExIf:
		p.put("if")
		p.exp(e.Args[0], 1)
		p.put("then")
		p.exp(e.Args[1], 1)
		p.put("else")
		p.exp(e.Args[2], 0)
	default:
		p.put(literal(e))
	}
}

// literal returns the one token of an expression without operands.
func literal(e api.Exp) string {
	text := e.Text
	switch e.Kind {
	case api.ExInt:
		text, _ = integer.Print(e.N)
	case api.ExReal:
		text, _ = real.Print(e.Real)
	case api.ExTrue:
		text = "true"
	case api.ExFalse:
		text = "false"
	case api.ExString:
		text = `"` + e.Text + `"`
	}
	return text
}

func (p *printer) elem(f api.Elem) {
	p.exp(f.Exps[0], 0)
	switch f.Kind {
	case api.FeStep:
		p.put("step")
		p.exp(f.Exps[1], 0)
		p.put("until")
		p.exp(f.Exps[2], 0)
	case api.FeWhile:
		p.put("while")
		p.exp(f.Exps[1], 0)
	}
}

func (p *printer) stmt(s api.Stmt) {
	for _, label := range s.Labels {
		p.put(label, ":")
	}
	switch s.Kind {
	case api.StAssign:
		for _, target := range s.Targets {
			p.exp(target, 0)
			p.put(":=")
		}
		p.exp(s.Exps[0], 0)
	case api.StGoto:
		p.put("goto")
		p.exp(s.Exps[0], 0)
	case api.StIf:
		p.conditional(s)
	case api.StFor:
		p.put("for")
		p.exp(s.Targets[0], 0)
		p.put(":=")
		putList(p, s.For, ",", p.elem)
		p.put("do")
		p.stmt(s.Body[0])
	case api.StCall:
		p.put(s.Text)
		if len(s.Exps) > 0 {
			p.put("(")
			p.exps(s.Exps)
			p.put(")")
		}
	case api.StBlock, api.StList:
		p.put("begin")
		for _, d := range s.Decls {
			p.decl(d)
			p.put(";")
		}
		p.statements(s.Body)
		p.put("end")
	}
}

func (p *printer) conditional(s api.Stmt) {
	p.put("if")
	p.exp(s.Exps[0], 0)
	p.put("then")
	p.stmt(s.Body[0])
	if len(s.Body) == 2 {
		p.put("else")
		p.stmt(s.Body[1])
	}
}

func (p *printer) decl(d api.Decl) {
	if d.Own {
		p.put("own")
	}
	p.put(types[d.Type])
	switch d.Kind {
	case api.DeVar:
		p.names(d.Names)
	case api.DeArray:
		p.put("array")
		p.names(d.Names)
		p.bounds(d.Exps)
	case api.DeSwitch:
		p.put("switch", d.Names[0], ":=")
		p.exps(d.Exps)
	case api.DeProc:
		p.put("procedure", d.Names[0])
		p.formals(d.Formals)
		p.stmt(d.Body[0])
	}
}

// bounds writes the bounds of arrays, of which each second one is an upper one.
func (p *printer) bounds(bounds []api.Exp) {
	p.put("[")
	for i, e := range bounds {
		if i%2 == 1 {
			p.put(":")
		} else if i > 0 {
			p.put(",")
		}
		p.exp(e, 0)
	}
	p.put("]")
}

// formals writes what is between the name of a procedure and its statement.
func (p *printer) formals(formals []api.Formal) {
	if len(formals) > 0 {
		p.put("(")
		p.names(formalNames(formals))
		p.put(")")
	}
	p.put(";")
	if byValue := calledByValue(formals); len(byValue) > 0 {
		p.put("value")
		p.names(formalNames(byValue))
		p.put(";")
	}
	for _, f := range formals {
		if f.Spec != api.SpNone {
			p.put(types[f.Type], specifications[f.Spec], f.Name, ";")
		}
	}
}

func calledByValue(formals []api.Formal) []api.Formal {
	var list []api.Formal
	for _, f := range formals {
		if f.Value {
			list = append(list, f)
		}
	}
	return list
}
