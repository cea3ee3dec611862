package scope

import (
	"manorboy/api"
	"manorboy/tree"
)

// part is a part of a statement, where it is; one of the first four fields is not nil.
type part struct {
	stmt *api.Stmt
	decl *api.Decl
	elem *api.Elem
	exp  *api.Exp

	number   int
	position int

	// scope is the innermost scope inside of which the part is.
	scope *scope

	// bounded is, for a part in a bound, the scope of the block that declares the array: the part is not inside of it.
	bounded *scope

	// inner is the scope that a block, a compound statement or a procedure declaration has.
	inner *scope
}

// declaration is the declaration of an identifier in a scope.
type declaration struct {
	name  string
	place api.Place
	scope *scope
}

// placeKinds are the kinds of the places of what is declared, by the kinds of the declarations.
var placeKinds = [...]int{
	api.DeVar:    api.BiVar,
	api.DeArray:  api.BiArray,
	api.DeSwitch: api.BiSwitch,
	api.DeProc:   api.BiProc,
}

// read returns all parts of a statement, by their numbers, and the scopes of the parts have all declarations. The error is that of tree.Check.
func read(s *api.Stmt) ([]part, api.Errno) {
	if e := tree.Check(*s); e != api.OK {
		return nil, e
	}
	var parts []part
	var visit func(part)
	visit = func(p part) {
		p.number = len(parts)
		p.inner = p.newInner()
		parts = append(parts, p)
		// An identifier can be used ahead of its declaration, so nobody may look it up before all parts have been visited.
		for _, d := range p.declarations() {
			d.scope.declare(d)
		}
		p.visitChildren(visit)
	}
	visit(part{stmt: s, position: nowhere, scope: standardScope().listScope()})
	return parts, api.OK
}

func (p part) newInner() *scope {
	switch {
	case p.stmt != nil && p.stmt.Kind == api.StBlock:
		return p.scope.blockScope()
	case p.stmt != nil && p.stmt.Kind == api.StList:
		return p.scope.listScope()
	case p.decl != nil && p.decl.Kind == api.DeProc:
		return p.scope.procedureScope(p.number)
	default:
		return nil
	}
}

// declarations returns what the part itself declares, in the order of the places. From part to part this is the order of each scope, too, so that the declaration of an identifier that is visited first is the one that counts.
func (p part) declarations() []declaration {
	var list []declaration
	add := func(scope *scope, kind, at int, name string) {
		list = append(list, declaration{name, api.Place{Kind: kind, Node: p.number, At: at}, scope})
	}
	switch {
	case p.stmt != nil:
		for at, label := range p.stmt.Labels {
			add(p.scope, api.BiLabel, at, label)
		}
	case p.decl != nil:
		for at, name := range p.decl.Names {
			add(p.scope, placeKinds[p.decl.Kind], at, name)
		}
		for at, f := range p.decl.Formals {
			add(p.inner, api.BiFormal, at, f.Name)
		}
	}
	return list
}

// visitChildren visits the children, in their order.
func (p part) visitChildren(visit func(part)) {
	switch {
	case p.stmt != nil:
		p.visitStmt(visit)
	case p.decl != nil:
		p.visitDecl(visit)
	case p.elem != nil:
		p.visitExps(p.elem.Exps, value, visit)
	default:
		for i := range p.exp.Args {
			visit(part{exp: &p.exp.Args[i], position: p.positionOfArg(i), scope: p.scope, bounded: p.bounded})
		}
	}
}

func (p part) visitExps(list []api.Exp, position int, visit func(part)) {
	for i := range list {
		visit(part{exp: &list[i], position: position, scope: p.scope})
	}
}

func (p part) visitStmt(visit func(part)) {
	p.visitExps(p.stmt.Targets, target, visit)
	p.visitExps(p.stmt.Exps, positionOfExps(p.stmt.Kind), visit)
	for i := range p.stmt.For {
		visit(part{elem: &p.stmt.For[i], scope: p.scope})
	}
	for i := range p.stmt.Decls {
		visit(part{decl: &p.stmt.Decls[i], scope: p.inner})
	}
	for i := range p.stmt.Body {
		list := p.inner
		if list == nil {
			list = p.scope.listScope()
		}
		visit(part{stmt: &p.stmt.Body[i], position: nowhere, scope: list})
	}
}

func (p part) visitDecl(visit func(part)) {
	switch p.decl.Kind {
	case api.DeArray:
		for i := range p.decl.Exps {
			visit(part{exp: &p.decl.Exps[i], position: value, scope: p.scope.outer, bounded: p.scope})
		}
	case api.DeSwitch:
		p.visitExps(p.decl.Exps, goal, visit)
	case api.DeProc:
		visit(part{stmt: &p.decl.Body[0], position: nowhere, scope: p.inner.listScope()})
	}
}

// name returns the identifier if the part is an occurrence of one; otherwise the empty string.
func (p part) name() string {
	switch {
	case p.form()&occurrences == 0:
		return ""
	case p.stmt != nil:
		return p.stmt.Text
	default:
		return p.exp.Text
	}
}

// count returns how many subscripts or actual parameters an occurrence has.
func (p part) count() int {
	if p.stmt != nil {
		return len(p.stmt.Exps)
	}
	return len(p.exp.Args)
}

// usesIn returns all occurrences among parts.
func usesIn(parts []part) []api.Use {
	var uses []api.Use
	for _, p := range parts {
		if name := p.name(); name != "" {
			place, _ := p.scope.lookup(name)
			uses = append(uses, api.Use{Node: p.number, Name: name, Place: place})
		}
	}
	return uses
}

// nameAt returns the identifier that a part declares, or that is a standard procedure's, at a place.
func nameAt(parts []part, place api.Place) (name string, found bool) {
	for at, s := range standard {
		if standardPlace(at) == place {
			return s.name, true
		}
	}
search:
	for _, p := range parts {
		for _, d := range p.declarations() {
			if d.place == place {
				name, found = d.name, true
				break search
			}
		}
	}
	return name, found
}
