package parse

import "manorboy/api"

// isDeclaration reports whether a declaration begins with the next token.
func (p *parser) isDeclaration() bool {
	return p.isType() || p.is("own") || p.is("array") || p.is("switch") || p.is("procedure")
}

func (p *parser) isType() bool { return p.is("integer") || p.is("real") || p.is("boolean") }

// optionalType reads a type, if there is one.
func (p *parser) optionalType() int {
	switch {
	case p.take("integer"):
		return api.TyInt
	case p.take("real"):
		return api.TyReal
	case p.take("boolean"):
		return api.TyBool
	default:
		return api.TyNone
	}
}

// declaration reads a declaration: several ones, if it declares arrays with different bounds.
func (p *parser) declaration() []api.Decl {
	from := p.at
	own := p.take("own")
	if own && !p.isType() {
		p.fail(symbol("integer"))
	}
	typ := p.optionalType()
	if p.take("array") {
		return p.arrays(from, own, typ)
	}
	var d api.Decl
	switch {
	case !own && p.take("procedure"):
		d = p.procedure(typ)
	case typ != api.TyNone:
		d = api.Decl{Kind: api.DeVar, Own: own, Type: typ, Names: p.names()}
	default:
		d = p.choices()
	}
	p.endPart(from)
	return []api.Decl{d}
}

func (p *parser) names() []string { return separated(&p.source, ",", unlimited, p.name) }

// choices reads the declaration of a switch.
func (p *parser) choices() api.Decl {
	p.need("switch")
	names := []string{p.name()}
	p.need(":=")
	return api.Decl{Kind: api.DeSwitch, Names: names, Exps: separated(&p.source, ",", unlimited, p.expression)}
}

// arrays reads the segments of a declaration of arrays, of which the first one begins with the whole.
func (p *parser) arrays(from int, own bool, typ int) []api.Decl {
	if typ == api.TyNone {
		typ = api.TyReal
	}
	return separated(&p.source, ",", unlimited, func() api.Decl {
		d := api.Decl{Kind: api.DeArray, Own: own, Type: typ, Names: p.names()}
		p.need("[")
		for _, pair := range separated(&p.source, ",", api.MaxDims, p.bounds) {
			d.Exps = append(d.Exps, pair.lower, pair.upper)
		}
		p.need("]")
		p.endPart(from)
		from = p.at + 1 // the next one begins behind the sign between them
		return d
	})
}

// bounds are the bounds of one dimension.
type bounds struct{ lower, upper api.Exp }

func (p *parser) bounds() bounds {
	lower := p.expression()
	p.need(":")
	return bounds{lower, p.expression()}
}

// procedure reads the declaration of a procedure behind this word.
func (p *parser) procedure(typ int) api.Decl {
	d := api.Decl{Kind: api.DeProc, Type: typ, Names: []string{p.name()}}
	h := p.heading()
	// What is read later has greater indices.
	if p.fault.e == api.OK {
		p.fault = h.fault()
	}
	d.Formals = h.parameters()
	d.Body = []api.Stmt{p.statement()}
	return d
}

// heading is what stands between the identifier of a procedure and its statement.
type heading struct {
	formals   []mention // between parentheses
	values    []mention // behind the word value
	specified []mention // behind a specifier
}

// mention is an identifier in a heading: the index of its token, and what is specified there.
type mention struct {
	name      string
	at        int
	spec, typ int
}

func (p *parser) mention() mention {
	at := p.at
	return mention{name: p.name(), at: at}
}

func (p *parser) mentions() []mention { return separated(&p.source, ",", unlimited, p.mention) }

func (p *parser) heading() heading {
	var h heading
	if p.take("(") {
		h.formals = separated(&p.source, ",", api.MaxPars, p.mention)
		p.need(")")
	}
	p.need(";")
	if p.take("value") {
		h.values = p.mentions()
		p.need(";")
	}
	for {
		spec, typ := p.optionalSpecifier()
		if spec == api.SpNone {
			return h
		}
		for _, m := range p.mentions() {
			m.spec, m.typ = spec, typ
			h.specified = append(h.specified, m)
		}
		p.need(";")
	}
}

// optionalSpecifier reads a specifier, if there is one.
func (p *parser) optionalSpecifier() (spec, typ int) {
	typ = p.optionalType()
	switch {
	case p.take("array"):
		return api.SpArray, typ
	case p.take("procedure"):
		return api.SpProc, typ
	case typ != api.TyNone:
		return api.SpVar, typ
	case p.take("label"):
		return api.SpLabel, typ
	case p.take("switch"):
		return api.SpSwitch, typ
	case p.take("string"):
		return api.SpString, typ
	default:
		return api.SpNone, typ
	}
}

// firstMention returns the first mention of an identifier in a list.
func firstMention(list []mention, name string) (m mention, found bool) {
	for _, m := range list {
		if m.name == name {
			return m, true
		}
	}
	return mention{}, false
}

func isMentioned(list []mention, name string) bool {
	_, found := firstMention(list, name)
	return found
}

// fault returns the first faulty identifier.
func (h heading) fault() failure {
	for i, m := range h.formals {
		if isMentioned(h.formals[:i], m.name) {
			return failure{e: api.ErrTwice, at: m.at}
		}
	}
	for i, m := range h.values {
		if e := h.valueError(m, h.values[:i]); e != api.OK {
			return failure{e: e, at: m.at}
		}
	}
	for i, m := range h.specified {
		if e := h.listError(m, h.specified[:i]); e != api.OK {
			return failure{e: e, at: m.at}
		}
	}
	return failure{}
}

// listError returns the error of an identifier in a list that names formal parameters, each at most once.
func (h heading) listError(m mention, ahead []mention) api.Errno {
	switch {
	case !isMentioned(h.formals, m.name):
		return api.ErrNone
	case isMentioned(ahead, m.name):
		return api.ErrTwice
	default:
		return api.OK
	}
}

// valueError returns the error of an identifier behind the word value.
func (h heading) valueError(m mention, ahead []mention) api.Errno {
	if e := h.listError(m, ahead); e != api.OK {
		return e
	}
	specified, _ := firstMention(h.specified, m.name)
	isValue := specified.spec == api.SpVar || specified.spec == api.SpArray
	if !isValue || specified.typ == api.TyNone {
		return api.ErrKind
	}
	return api.OK
}

// parameters returns the formal parameters of a heading without a faulty identifier.
func (h heading) parameters() []api.Formal {
	var formals []api.Formal
	for _, m := range h.formals {
		specified, _ := firstMention(h.specified, m.name)
		formals = append(formals, api.Formal{Name: m.name, Value: isMentioned(h.values, m.name), Spec: specified.spec, Type: specified.typ})
	}
	return formals
}
