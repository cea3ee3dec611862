package scope_test

import (
	"math/rand"

	"manorboy/api"
	"manorboy/tree"
)

// maker makes random valid statements with few identifiers, so that many are declared more than once. A level is how deep parts are at most.
type maker struct{ *rand.Rand }

func newMaker(seed int64) maker { return maker{rand.New(rand.NewSource(seed))} }

var pool = []string{"a", "b", "c", "p", "q", "abs", "inint", "outreal"}

func (m maker) name() string {
	if m.Intn(4) > 0 {
		return pool[m.Intn(5)]
	}
	return pool[m.Intn(len(pool))]
}

func (m maker) from(least, most int) int { return least + m.Intn(most-least+1) }

func some[T any](m maker, least, most int, make func() T) []T {
	var list []T
	for range m.from(least, most) {
		list = append(list, make())
	}
	return list
}

func (m maker) exps(level, least, most int) []api.Exp {
	return some(m, least, most, func() api.Exp { return m.exp(level) })
}

func (m maker) exp(level int) api.Exp {
	kinds := []int{api.ExName, api.ExName, api.ExName, api.ExInt, api.ExReal, api.ExTrue, api.ExFalse, api.ExString}
	if level > 1 {
		kinds = append(kinds, api.ExIndex, api.ExIndex, api.ExCall, api.ExCall, api.ExOne, api.ExTwo, api.ExIf, api.ExIf)
	}
	e := api.Exp{Kind: kinds[m.Intn(len(kinds))]}
	switch e.Kind {
	case api.ExName:
		e.Text = m.name()
	case api.ExString:
		e.Text = "a"
	case api.ExIndex:
		e.Text, e.Args = m.name(), m.exps(level-1, 1, 2)
	case api.ExCall:
		e.Text, e.Args = m.name(), m.exps(level-1, 1, 2)
	case api.ExOne:
		e.Op, e.Args = m.from(api.OpNeg, api.OpNot), m.exps(level-1, 1, 1)
	case api.ExTwo:
		e.Op, e.Args = m.from(api.OpAdd, api.OpEqv), m.exps(level-1, 2, 2)
	case api.ExIf:
		e.Args = m.exps(level-1, 3, 3)
	}
	return e
}

func (m maker) target(level int) api.Exp {
	if level <= 1 || m.Intn(2) == 0 {
		return api.Exp{Kind: api.ExName, Text: m.name()}
	}
	return api.Exp{Kind: api.ExIndex, Text: m.name(), Args: m.exps(level-1, 1, 2)}
}

func (m maker) elem(level int) api.Elem {
	f := api.Elem{Kind: m.from(api.FeOnce, api.FeWhile)}
	count := []int{0, 1, 3, 2}[f.Kind]
	f.Exps = m.exps(level-1, count, count)
	return f
}

func (m maker) decl(level int) api.Decl {
	d := api.Decl{Kind: m.from(api.DeVar, api.DeProc), Names: []string{m.name()}}
	switch d.Kind {
	case api.DeVar:
		d.Own, d.Type, d.Names = m.Intn(2) == 0, m.from(api.TyInt, api.TyBool), some(m, 1, 2, m.name)
	case api.DeArray:
		d.Own, d.Type, d.Names = m.Intn(2) == 0, m.from(api.TyInt, api.TyBool), some(m, 1, 2, m.name)
		count := 2 * m.from(1, 2)
		d.Exps = m.exps(level-1, count, count)
	case api.DeSwitch:
		d.Exps = m.exps(level-1, 1, 2)
	case api.DeProc:
		d.Type = m.from(api.TyNone, api.TyBool)
		d.Formals = m.formals()
		d.Body = []api.Stmt{m.stmt(level - 1)}
	}
	return d
}

func (m maker) formals() []api.Formal {
	var list []api.Formal
	for _, i := range m.Perm(len(pool))[:m.Intn(3)] {
		f := api.Formal{Name: pool[i], Spec: m.from(api.SpNone, api.SpProc)}
		switch f.Spec {
		case api.SpVar, api.SpArray:
			f.Value = m.Intn(3) > 0
			f.Type = m.from(api.TyInt, api.TyBool)
		case api.SpProc:
			f.Type = m.from(api.TyNone, api.TyBool)
		}
		list = append(list, f)
	}
	return list
}

func (m maker) body(level, least, most int) []api.Stmt {
	return some(m, least, most, func() api.Stmt { return m.stmt(level) })
}

func (m maker) stmt(level int) api.Stmt {
	kinds := []int{api.StEmpty, api.StCall, api.StCall}
	if level > 1 {
		kinds = append(kinds, api.StAssign, api.StAssign, api.StGoto)
	}
	if level > 2 {
		kinds = append(kinds, api.StIf, api.StFor, api.StBlock, api.StBlock, api.StBlock, api.StBlock, api.StBlock, api.StList)
	}
	s := api.Stmt{Kind: kinds[m.Intn(len(kinds))]}
	if m.Intn(3) == 0 {
		s.Labels = some(m, 1, 2, m.name)
	}
	switch s.Kind {
	case api.StAssign:
		s.Targets, s.Exps = some(m, 1, 2, func() api.Exp { return m.target(level - 1) }), m.exps(level-1, 1, 1)
	case api.StGoto:
		s.Exps = m.exps(level-1, 1, 1)
	case api.StIf:
		s.Exps, s.Body = m.exps(level-1, 1, 1), m.body(level-1, 1, 2)
		if first := s.Body[0].Kind; first == api.StIf || first == api.StFor {
			s.Body[0] = api.Stmt{Kind: api.StList, Labels: []string{m.name()}, Body: s.Body[:1:1]}
		}
	case api.StFor:
		s.Targets, s.For, s.Body = []api.Exp{m.target(level - 1)}, some(m, 1, 2, func() api.Elem { return m.elem(level - 1) }), m.body(level-1, 1, 1)
	case api.StCall:
		s.Text = m.name()
		if level > 1 {
			s.Exps = m.exps(level-1, 0, 2)
		}
	case api.StBlock:
		s.Decls, s.Body = some(m, 1, 3, func() api.Decl { return m.decl(level - 1) }), m.body(level-1, 1, 3)
	case api.StList:
		s.Body = m.body(level-1, 1, 3)
	}
	return s
}

// statements returns random valid statements, most of them blocks, none of them very large.
func statements(seed int64, count int) []api.Stmt {
	m := newMaker(seed)
	var list []api.Stmt
	for len(list) < count {
		s := m.stmt(m.from(3, 8))
		if s.Kind != api.StBlock && m.Intn(6) > 0 {
			continue
		}
		if size := tree.Size(s); 0 < size && size < 150 && tree.Check(s) == api.OK {
			list = append(list, s)
		}
	}
	return list
}
