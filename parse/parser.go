package parse

import (
	"math"

	"manorboy/api"
)

// unlimited is how many elements a list has at most if the syntax names no limit.
const unlimited = math.MaxInt

// parser reads tokens by the rules of the syntax. It never takes a token that the rules do not allow there, so that the token at which it panics with a failure is the first wrong one.
type parser struct {
	source
	parts []span  // of all parts that have been read, in the order in which they end
	fault failure // the first faulty identifier
}

// span are the tokens from an index up to, but not including, another one.
type span struct{ from, to int }

// endPart says that a part ends ahead of the next token.
func (p *parser) endPart(from int) { p.parts = append(p.parts, span{from, p.at}) }

// read reads tokens by a rule. It returns what they denote and the parser that has read them, or the first wrong token.
func read[T any](tokens []api.Token, rule func(*parser) T) (whole T, p parser, wrong failure) {
	defer func() {
		if reason := recover(); reason != nil {
			wrong = reason.(failure)
		}
	}()
	p.tokens = tokens
	whole = rule(&p)
	if p.at < len(tokens) {
		p.fail(api.Token{}) // no token would be right behind the whole
	}
	return whole, p, failure{}
}

// program reads a program, in which all identifiers ahead of the word begin are labels.
func (p *parser) program() api.Stmt { return p.labelled(p.isName, p.block) }

func (p *parser) statement() api.Stmt { return p.labelled(p.isLabel, p.unlabelled) }

// closed reads a statement behind which an else cannot belong to something in it.
func (p *parser) closed() api.Stmt { return p.labelled(p.isLabel, p.simple) }

// labelled reads labels, as long as there are some, and a statement without labels by a rule.
func (p *parser) labelled(isLabel func() bool, rule func() api.Stmt) api.Stmt {
	from := p.at
	var labels []string
	for isLabel() {
		labels = append(labels, p.name())
		p.need(":")
	}
	s := rule()
	s.Labels = labels
	p.endPart(from)
	return s
}

func (p *parser) unlabelled() api.Stmt {
	switch {
	case p.take("if"):
		return p.conditional()
	case p.take("for"):
		return p.loop()
	default:
		return p.simple()
	}
}

// simple reads a statement that begins neither with if nor with for.
func (p *parser) simple() api.Stmt {
	switch {
	case p.take("goto"):
		return api.Stmt{Kind: api.StGoto, Exps: []api.Exp{p.expression()}}
	case p.is("begin"):
		return p.block()
	case !p.isName():
		return api.Stmt{Kind: api.StEmpty}
	case hasText(p.ahead(1), "["), hasText(p.ahead(1), ":="):
		return p.assignment()
	default:
		return p.call()
	}
}

func (p *parser) conditional() api.Stmt {
	condition := p.expression()
	p.need("then")
	body := []api.Stmt{p.closed()}
	if p.take("else") {
		body = append(body, p.statement())
	}
	return api.Stmt{Kind: api.StIf, Exps: []api.Exp{condition}, Body: body}
}

func (p *parser) loop() api.Stmt {
	target := p.target()
	p.need(":=")
	elements := separated(&p.source, ",", unlimited, p.element)
	p.need("do")
	body := p.statement()
	return api.Stmt{Kind: api.StFor, Targets: []api.Exp{target}, For: elements, Body: []api.Stmt{body}}
}

func (p *parser) element() api.Elem {
	from := p.at
	f := api.Elem{Kind: api.FeOnce, Exps: []api.Exp{p.expression()}}
	switch {
	case p.take("step"):
		step := p.expression()
		p.need("until")
		f.Kind, f.Exps = api.FeStep, append(f.Exps, step, p.expression())
	case p.take("while"):
		f.Kind, f.Exps = api.FeWhile, append(f.Exps, p.expression())
	}
	p.endPart(from)
	return f
}

func (p *parser) assignment() api.Stmt {
	targets := []api.Exp{p.target()}
	p.need(":=")
	for {
		hasName := p.isName()
		e := p.expression()
		// What begins with an identifier has no parentheses around it. Only the sign behind it tells a further target from the value.
		isTarget := hasName && (e.Kind == api.ExName || e.Kind == api.ExIndex)
		if !isTarget || !p.take(":=") {
			return api.Stmt{Kind: api.StAssign, Targets: targets, Exps: []api.Exp{e}}
		}
		targets = append(targets, e)
	}
}

func (p *parser) call() api.Stmt {
	s := api.Stmt{Kind: api.StCall, Text: p.name()}
	if p.is("(") {
		s.Exps = p.arguments("(", ")", api.MaxPars)
	}
	return s
}

func (p *parser) block() api.Stmt {
	p.need("begin")
	s := api.Stmt{Kind: api.StList}
	for p.isDeclaration() {
		s.Kind = api.StBlock
		s.Decls = append(s.Decls, p.declaration()...)
		p.need(";")
	}
	s.Body = separated(&p.source, ";", unlimited, p.statement)
	p.need("end")
	return s
}
