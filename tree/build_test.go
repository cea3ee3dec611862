package tree_test

import (
	"math/rand"
	"slices"

	"manorboy/api"
	"manorboy/real"
	"manorboy/tree"
)

func num(n int) api.Exp        { return api.Exp{Kind: api.ExInt, N: n} }
func name(text string) api.Exp { return api.Exp{Kind: api.ExName, Text: text} }
func quoted(text string) api.Exp {
	return api.Exp{Kind: api.ExString, Text: text}
}

// broken is the real that a string denotes.
func broken(text string) api.Exp {
	x, e := real.Parse(text)
	if e != api.OK {
		panic(text)
	}
	return api.Exp{Kind: api.ExReal, Real: x}
}

func truth(value bool) api.Exp {
	if value {
		return api.Exp{Kind: api.ExTrue}
	}
	return api.Exp{Kind: api.ExFalse}
}

func index(text string, args ...api.Exp) api.Exp {
	return api.Exp{Kind: api.ExIndex, Text: text, Args: args}
}

func function(text string, args ...api.Exp) api.Exp {
	return api.Exp{Kind: api.ExCall, Text: text, Args: args}
}

func one(op int, a api.Exp) api.Exp {
	return api.Exp{Kind: api.ExOne, Op: op, Args: []api.Exp{a}}
}

func two(op int, a, b api.Exp) api.Exp {
	return api.Exp{Kind: api.ExTwo, Op: op, Args: []api.Exp{a, b}}
}

func choice(a, b, c api.Exp) api.Exp {
	return api.Exp{Kind: api.ExIf, Args: []api.Exp{a, b, c}}
}

func empty() api.Stmt { return api.Stmt{Kind: api.StEmpty} }

func labelled(s api.Stmt, labels ...string) api.Stmt {
	s.Labels = labels
	return s
}

func assign(e api.Exp, targets ...api.Exp) api.Stmt {
	return api.Stmt{Kind: api.StAssign, Targets: targets, Exps: []api.Exp{e}}
}

func leap(e api.Exp) api.Stmt { return api.Stmt{Kind: api.StGoto, Exps: []api.Exp{e}} }

func when(e api.Exp, body ...api.Stmt) api.Stmt {
	return api.Stmt{Kind: api.StIf, Exps: []api.Exp{e}, Body: body}
}

func loop(target api.Exp, body api.Stmt, elems ...api.Elem) api.Stmt {
	return api.Stmt{Kind: api.StFor, Targets: []api.Exp{target}, For: elems, Body: []api.Stmt{body}}
}

func elem(kind int, exps ...api.Exp) api.Elem { return api.Elem{Kind: kind, Exps: exps} }

func call(text string, exps ...api.Exp) api.Stmt {
	return api.Stmt{Kind: api.StCall, Text: text, Exps: exps}
}

func list(body ...api.Stmt) api.Stmt { return api.Stmt{Kind: api.StList, Body: body} }

func block(d api.Decl, body ...api.Stmt) api.Stmt {
	return api.Stmt{Kind: api.StBlock, Decls: []api.Decl{d}, Body: body}
}

func variables(own bool, typ int, names ...string) api.Decl {
	return api.Decl{Kind: api.DeVar, Own: own, Type: typ, Names: names}
}

func arrays(own bool, typ int, names []string, bounds ...api.Exp) api.Decl {
	return api.Decl{Kind: api.DeArray, Own: own, Type: typ, Names: names, Exps: bounds}
}

func choices(text string, exps ...api.Exp) api.Decl {
	return api.Decl{Kind: api.DeSwitch, Names: []string{text}, Exps: exps}
}

func procedure(typ int, text string, body api.Stmt, formals ...api.Formal) api.Decl {
	return api.Decl{Kind: api.DeProc, Type: typ, Names: []string{text}, Formals: formals, Body: []api.Stmt{body}}
}

// validFormals are all formal parameters with a name that are valid.
func validFormals(name string) []api.Formal {
	l := []api.Formal{
		{Name: name, Spec: api.SpNone}, {Name: name, Spec: api.SpLabel}, {Name: name, Spec: api.SpSwitch}, {Name: name, Spec: api.SpString},
		{Name: name, Spec: api.SpArray}, {Name: name, Spec: api.SpProc},
	}
	for typ := api.TyInt; typ <= api.TyBool; typ++ {
		for _, spec := range []int{api.SpVar, api.SpArray, api.SpProc} {
			l = append(l, api.Formal{Name: name, Spec: spec, Type: typ})
		}
		for _, spec := range []int{api.SpVar, api.SpArray} {
			l = append(l, api.Formal{Name: name, Value: true, Spec: spec, Type: typ})
		}
	}
	return l
}

// maker makes random valid parts. A level is how deep they are at most.
type maker struct{ *rand.Rand }

func newMaker(seed int64) maker { return maker{rand.New(rand.NewSource(seed))} }

func (m maker) name() string {
	l := []string{"a", "b", "i", "x1", "begins", "e5", "abcdefghijklmnop", "comments", "f"}
	return l[m.Intn(len(l))]
}

func (m maker) from(least, most int) int { return least + m.Intn(most-least+1) }

func some[T any](m maker, least, most int, make func() T) []T {
	var l []T
	for range m.from(least, most) {
		l = append(l, make())
	}
	return l
}

func (m maker) exps(level, least, most int) []api.Exp {
	return some(m, least, most, func() api.Exp { return m.exp(level) })
}

func (m maker) exp(level int) api.Exp {
	e := api.Exp{Kind: m.from(api.ExInt, api.ExIf)}
	if level <= 1 {
		e.Kind = m.from(api.ExInt, api.ExName)
	}
	switch e.Kind {
	case api.ExInt:
		e.N = m.Intn(api.MaxInt) >> m.Intn(31)
	case api.ExReal:
		e.Real, _ = real.At(m.Intn(api.MaxIndex + 1))
	case api.ExString:
		l := []string{"", "a", "; end (", "it's", "if", "12", " x "}
		e.Text = l[m.Intn(len(l))]
	case api.ExName:
		e.Text = m.name()
	case api.ExIndex:
		e.Text, e.Args = m.name(), m.exps(level-1, 1, 4)
	case api.ExCall:
		e.Text, e.Args = m.name(), m.exps(level-1, 1, 4)
	case api.ExOne:
		e.Op, e.Args = m.from(api.OpNeg, api.OpNot), m.exps(level-1, 1, 1)
	case api.ExTwo:
		e.Op, e.Args = m.from(api.OpAdd, api.OpEqv), m.exps(level-1, 2, 2)
	case api.ExIf:
		e.Args = m.exps(level-1, 3, 3)
	}
	return e
}

func (m maker) target(level int) api.Exp {
	if level <= 1 || m.Intn(2) == 0 {
		return name(m.name())
	}
	return index(m.name(), m.exps(level-1, 1, 3)...)
}

func (m maker) elem(level int) api.Elem {
	f := api.Elem{Kind: m.from(api.FeOnce, api.FeWhile)}
	count := []int{0, 1, 3, 2}[f.Kind]
	f.Exps = m.exps(level-1, count, count)
	return f
}

func (m maker) body(level, least, most int) []api.Stmt {
	return some(m, least, most, func() api.Stmt { return m.stmt(level) })
}

func (m maker) stmt(level int) api.Stmt {
	s := api.Stmt{Kind: m.from(api.StEmpty, api.StList)}
	if level <= 1 {
		s.Kind = []int{api.StEmpty, api.StCall}[m.Intn(2)]
	} else if level == 2 {
		s.Kind = []int{api.StEmpty, api.StCall, api.StList, api.StGoto, api.StAssign}[m.Intn(5)]
	}
	if m.Intn(4) == 0 {
		s.Labels = some(m, 1, 2, m.name)
	}
	switch s.Kind {
	case api.StAssign:
		s.Targets = some(m, 1, 3, func() api.Exp { return m.target(level - 1) })
		s.Exps = m.exps(level-1, 1, 1)
	case api.StGoto:
		s.Exps = m.exps(level-1, 1, 1)
	case api.StIf:
		s.Exps, s.Body = m.exps(level-1, 1, 1), m.body(level-1, 1, 2)
		for s.Body[0].Kind == api.StIf || s.Body[0].Kind == api.StFor {
			s.Body[0] = m.stmt(level - 1)
		}
	case api.StFor:
		s.Targets = []api.Exp{m.target(level - 1)}
		s.For = some(m, 1, 3, func() api.Elem { return m.elem(level - 1) })
		s.Body = m.body(level-1, 1, 1)
	case api.StCall:
		s.Text = m.name()
		if level > 1 {
			s.Exps = m.exps(level-1, 0, 3)
		}
	case api.StBlock:
		s.Decls = some(m, 1, 3, func() api.Decl { return m.decl(level - 1) })
		s.Body = m.body(level-1, 1, 3)
	case api.StList:
		s.Body = m.body(level-1, 1, 3)
	}
	return s
}

func (m maker) decl(level int) api.Decl {
	d := api.Decl{Kind: m.from(api.DeVar, api.DeProc)}
	if level <= 1 {
		d.Kind = api.DeVar
	}
	switch d.Kind {
	case api.DeVar:
		d.Own, d.Type, d.Names = m.Intn(2) == 0, m.from(1, 3), some(m, 1, 3, m.name)
	case api.DeArray:
		bounds := 2 * m.from(1, 4)
		d.Own, d.Type, d.Names, d.Exps = m.Intn(2) == 0, m.from(1, 3), some(m, 1, 3, m.name), m.exps(min(level-1, 3), bounds, bounds)
	case api.DeSwitch:
		d.Names, d.Exps = []string{m.name()}, m.exps(level-1, 1, 3)
	case api.DeProc:
		d.Type, d.Names, d.Body = m.from(0, 3), []string{m.name()}, m.body(level-1, 1, 1)
		names := []string{"z", "y", "x", "abcdefghijklmnop", "a", "f", "r2d2", "q"}
		for _, name := range names[:m.from(0, 8)] {
			l := validFormals(name)
			d.Formals = append(d.Formals, l[m.Intn(len(l))])
		}
	}
	return d
}

// stmts makes valid statements, of different depths.
func (m maker) stmts(count int) []api.Stmt {
	var l []api.Stmt
	for len(l) < count {
		if s := m.stmt(m.from(1, 7)); tree.Size(s) > 0 {
			l = append(l, s)
		}
	}
	return l
}

// wild makes statements that are hardly ever valid: all lists may have elements, and all fields any values.
func (m maker) wild(level int) api.Stmt {
	s := api.Stmt{Kind: m.from(-1, 9), Text: []string{"", "p", "if"}[m.Intn(3)], Labels: some(m, 0, 2, m.name)}
	if level > 1 {
		s.Targets = some(m, 0, 1, func() api.Exp { return m.wildExp(level - 1) })
		s.Exps = some(m, 0, 2, func() api.Exp { return m.wildExp(level - 1) })
		s.For = some(m, 0, 1, func() api.Elem {
			return api.Elem{Kind: m.from(-1, 4), Exps: some(m, 0, 2, func() api.Exp { return m.wildExp(level - 2) })}
		})
		s.Decls = some(m, 0, 1, func() api.Decl { return m.wildDecl(level - 1) })
		s.Body = some(m, 0, 2, func() api.Stmt { return m.wild(level - 1) })
	}
	return s
}

func (m maker) wildDecl(level int) api.Decl {
	d := api.Decl{Kind: m.from(-1, 5), Own: m.Intn(2) == 0, Type: m.from(-1, 4), Names: some(m, 0, 2, m.name)}
	d.Formals = some(m, 0, 2, func() api.Formal {
		return api.Formal{Name: m.name(), Value: m.Intn(2) == 0, Spec: m.from(-1, 7), Type: m.from(-1, 4)}
	})
	if level > 1 {
		d.Exps = some(m, 0, 2, func() api.Exp { return m.wildExp(level - 1) })
		d.Body = some(m, 0, 1, func() api.Stmt { return m.wild(level - 1) })
	}
	return d
}

func (m maker) wildExp(level int) api.Exp {
	e := api.Exp{Kind: m.from(-1, 12), Op: m.from(-1, 19), N: m.from(-2, 2), Text: m.name()}
	e.Real = api.Real{Man: m.from(-2, 2), Exp: m.from(-2, 2)}
	if level > 1 {
		e.Args = some(m, 0, 3, func() api.Exp { return m.wildExp(level - 1) })
	}
	return e
}

// all are all small valid parts with few names and numbers, by their sizes.
type all struct {
	exps  [][]api.Exp
	stmts [][]api.Stmt
	decls [][]api.Decl
	elems [][]api.Elem
}

// lists returns all lists of elements of given sizes that have some length, and together a size.
func lists[T any](bySize [][]T, least, most, size int) [][]T {
	if size == 0 && least <= 0 {
		return [][]T{nil}
	}
	if size <= 0 || most == 0 {
		return nil
	}
	var l [][]T
	for first := 1; first <= size && first < len(bySize); first++ {
		for _, behind := range lists(bySize, least-1, most-1, size-first) {
			for _, x := range bySize[first] {
				l = append(l, slices.Concat([]T{x}, behind))
			}
		}
	}
	return l
}

// enumerate returns all parts up to a size. The expressions in statements have at most the size inner.
func enumerate(size, inner int) *all {
	a := &all{make([][]api.Exp, 1), make([][]api.Stmt, 1), make([][]api.Decl, 1), make([][]api.Elem, 1)}
	for n := 1; n <= size; n++ {
		if n <= inner {
			a.exps = append(a.exps, a.expsOf(n))
		}
		a.elems = append(a.elems, a.elemsOf(n))
		a.decls = append(a.decls, a.declsOf(n))
		a.stmts = append(a.stmts, a.stmtsOf(n))
	}
	return a
}

func (a *all) expsOf(size int) []api.Exp {
	if size == 1 {
		return []api.Exp{name("a"), num(1)}
	}
	var l []api.Exp
	add := func(e api.Exp, least, most int) {
		for _, args := range lists(a.exps, least, most, size-1) {
			e.Args = args
			l = append(l, e)
		}
	}
	add(api.Exp{Kind: api.ExIndex, Text: "a"}, 1, 4)
	add(api.Exp{Kind: api.ExCall, Text: "a"}, 1, 8)
	add(api.Exp{Kind: api.ExIf}, 3, 3)
	for op := api.OpNeg; op <= api.OpEqv; op++ {
		if op <= api.OpNot {
			add(api.Exp{Kind: api.ExOne, Op: op}, 1, 1)
		} else {
			add(api.Exp{Kind: api.ExTwo, Op: op}, 2, 2)
		}
	}
	return l
}

func (a *all) elemsOf(size int) []api.Elem {
	var l []api.Elem
	for kind, count := range []int{0, 1, 3, 2} {
		for _, exps := range lists(a.exps, count, count, size-1) {
			if kind > 0 {
				l = append(l, elem(kind, exps...))
			}
		}
	}
	return l
}

func (a *all) declsOf(size int) []api.Decl {
	var l []api.Decl
	for _, own := range []bool{false, true} {
		for names := 1; names < size; names++ {
			if names == size-1 {
				l = append(l, variables(own, api.TyReal, slices.Repeat([]string{"a"}, names)...))
			}
			for bounds := 2; bounds <= 8; bounds += 2 {
				for _, exps := range lists(a.exps, bounds, bounds, size-1-names) {
					l = append(l, arrays(own, api.TyReal, slices.Repeat([]string{"a"}, names), exps...))
				}
			}
		}
	}
	for _, exps := range lists(a.exps, 1, size, size-2) {
		l = append(l, choices("a", exps...))
	}
	for _, body := range lists(a.stmts, 1, 1, size-2) {
		l = append(l, procedure(api.TyNone, "a", body[0]), procedure(api.TyReal, "a", body[0]))
	}
	for _, body := range lists(a.stmts, 1, 1, size-3) {
		for _, formal := range validFormals("a") {
			l = append(l, procedure(api.TyNone, "a", body[0], formal))
		}
	}
	return l
}

// pairs visits all pairs of lists that together have a size.
func pairs[A, B any](size int, first func(int) [][]A, second func(int) [][]B, visit func([]A, []B)) {
	for n := 0; n <= size; n++ {
		for _, x := range first(n) {
			for _, y := range second(size - n) {
				visit(x, y)
			}
		}
	}
}

func isTarget(e api.Exp) bool { return e.Kind == api.ExName || e.Kind == api.ExIndex }

func (a *all) stmtsOf(size int) []api.Stmt {
	var l []api.Stmt
	for labels := 0; labels < size; labels++ {
		for _, s := range a.unlabelled(size - labels) {
			l = append(l, labelled(s, slices.Repeat([]string{"a"}, labels)...))
		}
	}
	return l
}

func (a *all) unlabelled(size int) []api.Stmt {
	if size == 1 {
		return []api.Stmt{empty(), call("a")}
	}
	var l []api.Stmt
	exps := func(least, most int) func(int) [][]api.Exp {
		return func(n int) [][]api.Exp { return lists(a.exps, least, most, n) }
	}
	body := func(least, most int) func(int) [][]api.Stmt {
		return func(n int) [][]api.Stmt { return lists(a.stmts, least, most, n) }
	}
	pairs(size-1, exps(1, size), exps(1, 1), func(targets, e []api.Exp) {
		if !slices.ContainsFunc(targets, func(e api.Exp) bool { return !isTarget(e) }) {
			l = append(l, assign(e[0], targets...))
		}
	})
	for _, e := range lists(a.exps, 1, 1, size-1) {
		l = append(l, leap(e[0]))
	}
	pairs(size-1, exps(1, 1), body(1, 2), func(e []api.Exp, body []api.Stmt) {
		if body[0].Kind != api.StIf && body[0].Kind != api.StFor {
			l = append(l, when(e[0], body...))
		}
	})
	for _, target := range []api.Exp{name("a"), index("a", num(1))} {
		elems := func(n int) [][]api.Elem { return lists(a.elems, 1, n, n) }
		pairs(size-1-tree.SizeExp(target), elems, body(1, 1), func(elems []api.Elem, body []api.Stmt) {
			l = append(l, loop(target, body[0], elems...))
		})
	}
	for _, args := range lists(a.exps, 1, 8, size-1) {
		l = append(l, call("a", args...))
	}
	for _, body := range lists(a.stmts, 1, size, size-1) {
		l = append(l, list(body...))
	}
	decls := func(n int) [][]api.Decl { return lists(a.decls, 1, n, n) }
	pairs(size-1, decls, body(1, size), func(decls []api.Decl, body []api.Stmt) {
		l = append(l, api.Stmt{Kind: api.StBlock, Decls: decls, Body: body})
	})
	return l
}
