package tree_test

import (
	"fmt"
	"math"
	"reflect"
	"slices"
	"testing"

	"manorboy/api"
	"manorboy/lex"
	"manorboy/tree"
)

func TestPromise3Same(t *testing.T) {
	m := newMaker(10)
	checkSame := func(a, b api.Stmt, want bool, how string) {
		if tree.Same(a, b) != want || tree.Same(b, a) != want {
			t.Errorf("Same(%v, %v) is not %v: %s", a, b, want, how)
		}
	}
	for range 60 {
		s := m.wild(4)
		if size := tree.Size(s); size == 0 || size > 50 {
			continue
		}
		checkSame(s, clone(s), true, "copies")
		checkSame(s, emptied(s), true, "empty lists")
		variations(s, func(other api.Stmt, how string) { checkSame(s, other, false, how) })
	}
	checkSame(api.Stmt{}, api.Stmt{}, true, "nothing")
	checkSame(empty(), list(empty()), false, "kinds")
}

func TestPromise3SameExp(t *testing.T) {
	m := newMaker(11)
	for range 150 {
		e := m.wildExp(4)
		if !tree.SameExp(e, clone(e)) || !tree.SameExp(e, emptied(e)) {
			t.Errorf("SameExp(%v) with its copy is false", e)
		}
		variations(e, func(other api.Exp, how string) {
			if tree.SameExp(e, other) || tree.SameExp(other, e) {
				t.Errorf("SameExp(%v, %v) is true: %s", e, other, how)
			}
		})
	}
}

func TestPromise3Limits(t *testing.T) {
	for _, count := range []int{1998, 1999, 2000, 2001} {
		s, e := api.Stmt{Labels: repeated("a", count)}, api.Exp{Args: repeated(num(1), count)}
		want := count <= 1999
		if tree.Same(s, clone(s)) != want || tree.SameExp(e, clone(e)) != want {
			t.Errorf("%d labels or operands are not within the limits, or are", count)
		}
	}
	for _, depth := range []int{59, 60, 61} {
		e, s := deep(depth), leap(deep(depth-1))
		want := depth <= 60
		if tree.SameExp(e, clone(e)) != want || tree.Same(s, clone(s)) != want {
			t.Errorf("depth %d is not within the limits, or is", depth)
		}
	}
	if e := endless(); tree.SameExp(e, e) || tree.SameExp(e, num(1)) || tree.SameExp(num(1), e) || tree.SameExp(huge(), huge()) {
		t.Error("without an end, but the same")
	}
	if s := leap(endless()); tree.Same(s, s) || tree.Same(s, leap(num(1))) || tree.Same(leap(num(1)), s) {
		t.Error("without an end, but the same")
	}
}

// same compares lists and what is in them; nil and empty lists are the same.
func same(a, b any) bool { return fmt.Sprintf("%+v", a) == fmt.Sprintf("%+v", b) }

func TestPromise4Copy(t *testing.T) {
	m := newMaker(12)
	for _, s := range m.stmts(200) {
		if got, e := tree.Copy(s); e != api.OK || !same(got, s) || !tree.Same(got, s) || !isNew(&got) {
			t.Errorf("Copy(%v) = %v, %d", s, got, e)
		}
		if got, e := tree.Copy(emptied(s)); e != api.OK || !tree.Same(got, s) {
			t.Errorf("Copy(%v) with empty lists = %v, %d", s, got, e)
		}
		x := m.exp(5)
		if got, e := tree.CopyExp(x); e != api.OK || !same(got, x) || !tree.SameExp(got, x) || !isNew(&got) {
			t.Errorf("CopyExp(%v) = %v, %d", x, got, e)
		}
	}
}

func TestPromise5Paths(t *testing.T) {
	for _, s := range newMaker(13).stmts(200) {
		var want [][]int
		for _, x := range spots(&s) {
			want = append(want, x.path)
		}
		if got, e := tree.Paths(s); e != api.OK || !same(got, want) || !isNew(&got) {
			t.Errorf("Paths(%v) = %v, %d, not %v", s, got, e, want)
		}
	}
}

func TestPromise5Parts(t *testing.T) {
	for _, s := range newMaker(14).stmts(100) {
		for i, x := range spots(&s) {
			if n, e := tree.Number(s, x.path); n != i || e != api.OK {
				t.Errorf("Number(%v, %v) = %d, %d, not %d", s, x.path, n, e, i)
			}
			if p, e := tree.At(s, x.path); !same(p, x.part()) || e != api.OK || !isNew(&p) {
				t.Errorf("At(%v, %v) = %v, %d, not %v", s, x.path, p, e, x.part())
			}
		}
	}
}

func checkNone(t *testing.T, s api.Stmt, path []int) {
	t.Helper()
	if n, e := tree.Number(s, path); n != 0 || e != api.ErrNone {
		t.Errorf("Number(%v, %v) = %d, %d", s, path, n, e)
	}
	if p, e := tree.At(s, path); !reflect.DeepEqual(p, api.Part{}) || e != api.ErrNone {
		t.Errorf("At(%v, %v) = %v, %d", s, path, p, e)
	}
	for kind := range 6 {
		if got, e := tree.With(s, path, api.Part{Kind: kind}); !reflect.DeepEqual(got, api.Stmt{}) || e != api.ErrNone {
			t.Errorf("With(%v, %v) = %v, %d", s, path, got, e)
		}
	}
}

func TestPromise5None(t *testing.T) {
	for _, s := range newMaker(15).stmts(30) {
		paths := map[string]bool{}
		for _, x := range spots(&s) {
			paths[fmt.Sprint(x.path)] = true
		}
		for _, x := range spots(&s) {
			for _, last := range []int{-1, 0, 1, 2, 7, math.MaxInt, math.MinInt} {
				if path := append(slices.Clone(x.path), last); !paths[fmt.Sprint(path)] {
					checkNone(t, s, path)
					checkNone(t, s, append(path, 0))
				}
			}
		}
	}
	checkNone(t, empty(), make([]int, 100000))
	checkNone(t, list(empty()), make([]int, 61))
}

func TestPromise5Example(t *testing.T) {
	s := assign(two(api.OpSub, name("a"), two(api.OpSub, name("b"), name("c"))), name("x"))
	if got, e := tree.Paths(s); e != api.OK || !same(got, [][]int{{}, {0}, {1}, {1, 0}, {1, 1}, {1, 1, 0}, {1, 1, 1}}) {
		t.Errorf("%v, %d", got, e)
	}
	for i, path := range [][]int{nil, {0}, {1}, {1, 0}, {1, 1}, {1, 1, 0}, {1, 1, 1}} {
		if n, e := tree.Number(s, path); n != i || e != api.OK {
			t.Errorf("Number of %v: %d, %d", path, n, e)
		}
	}
	if p, e := tree.At(s, []int{1, 1, 0}); e != api.OK || !same(p, api.Part{Kind: api.PaExp, Exp: name("b")}) {
		t.Errorf("%v, %d", p, e)
	}
	if p, e := tree.At(s, []int{}); e != api.OK || !same(p, api.Part{Kind: api.PaStmt, Stmt: s}) {
		t.Errorf("%v, %d", p, e)
	}
}

// sampler has a part of each kind: the first paths of them are those of samplePaths.
func sampler() api.Stmt {
	return block(choices("s", num(1), num(2)), loop(name("i"), when(truth(true), empty()), elem(api.FeOnce, num(3))), empty())
}

// samplePaths are paths of a statement, a declaration, an element and an expression of the sampler.
var samplePaths = [][]int{api.PaStmt: {1, 2}, api.PaDecl: {0}, api.PaElem: {1, 1}, api.PaExp: {0, 1}}

// samplePart is a part that can stand there.
func samplePart(kind int) api.Part {
	p := api.Part{Kind: kind}
	switch kind {
	case api.PaStmt:
		p.Stmt = call("p", num(7))
	case api.PaDecl:
		p.Decl = variables(true, api.TyInt, "v")
	case api.PaElem:
		p.Elem = elem(api.FeWhile, num(7), truth(true))
	case api.PaExp:
		p.Exp = one(api.OpNeg, num(7))
	}
	return p
}

func checkWith(t *testing.T, s api.Stmt, path []int, p api.Part, want api.Errno) {
	t.Helper()
	if got, e := tree.With(s, path, p); e != want || e != api.OK && !reflect.DeepEqual(got, api.Stmt{}) {
		t.Errorf("With(%.100v, %v, %.100v) = %.100v, %d, not %d", s, path, p, got, e, want)
	}
}

func TestPromise6Kinds(t *testing.T) {
	for kind := api.PaStmt; kind <= api.PaExp; kind++ {
		for other := -1; other <= 6; other++ {
			want := api.ErrKind
			if other == kind {
				want = api.OK
			}
			checkWith(t, sampler(), samplePaths[kind], samplePart(other), want)
			if other != kind {
				p := samplePart(kind)
				p.Kind = other
				checkWith(t, sampler(), samplePaths[kind], p, api.ErrKind)
			}
		}
	}
}

func TestPromise6Results(t *testing.T) {
	for kind, want := range map[int]string{
		api.PaStmt: "begin switch s := 1, 2; for i := 3 do p(7); end",
		api.PaDecl: "begin own integer v; for i := 3 do if true then; end",
		api.PaElem: "begin switch s := 1, 2; for i := 7 while true do if true then; end",
		api.PaExp:  "begin switch s := 1, - 7; for i := 3 do if true then; end",
	} {
		s, e := tree.With(sampler(), samplePaths[kind], samplePart(kind))
		if text, err := tree.Print(s); e != api.OK || err != api.OK || text != want {
			t.Errorf("kind %d: %q, %d, %d", kind, text, e, err)
		}
	}
	if s, e := tree.With(sampler(), nil, samplePart(api.PaStmt)); e != api.OK || !tree.Same(s, call("p", num(7))) {
		t.Errorf("%v, %d", s, e)
	}
}

// TestPromise6Fields puts something into each field that does not belong to the kind.
func TestPromise6Fields(t *testing.T) {
	full := newMaker(16)
	for kind := api.PaStmt; kind <= api.PaExp; kind++ {
		checkWith(t, sampler(), samplePaths[kind], emptied(samplePart(kind)), api.OK)
		for other := api.PaStmt; other <= api.PaExp; other++ {
			if other == kind {
				continue
			}
			p := samplePart(kind)
			try := func(how string) {
				if !tree.Same(api.Stmt{}, p.Stmt) || !tree.SameExp(api.Exp{}, p.Exp) || !same(p.Decl, api.Decl{}) || !same(p.Elem, api.Elem{}) {
					checkWith(t, sampler(), samplePaths[kind], p, api.ErrArg)
				} else {
					t.Errorf("nothing is varied: %s", how)
				}
			}
			switch other {
			case api.PaStmt:
				variations(api.Stmt{}, func(x api.Stmt, how string) { p.Stmt = x; try(how) })
				p.Stmt = full.stmt(3)
			case api.PaDecl:
				variations(api.Decl{}, func(x api.Decl, how string) { p.Decl = x; try(how) })
				p.Decl = full.decl(3)
			case api.PaElem:
				variations(api.Elem{}, func(x api.Elem, how string) { p.Elem = x; try(how) })
				p.Elem = full.elem(3)
			case api.PaExp:
				variations(api.Exp{}, func(x api.Exp, how string) { p.Exp = x; try(how) })
				p.Exp = full.exp(3)
			}
			try("a whole part")
		}
	}
}

func TestPromise6Order(t *testing.T) {
	// An argument that is not valid comes first, then the path, the Kind, the other fields, the limits, the validity.
	impure := api.Part{Kind: api.PaExp, Exp: endless(), Stmt: empty()}
	checkWith(t, call("if"), []int{9}, api.Part{}, api.ErrArg)
	checkWith(t, leap(endless()), []int{9}, api.Part{}, api.ErrLimit)
	checkWith(t, sampler(), []int{9}, impure, api.ErrNone)
	checkWith(t, sampler(), []int{1}, impure, api.ErrKind)
	checkWith(t, sampler(), []int{0, 1}, impure, api.ErrArg)
	impure.Stmt = api.Stmt{}
	checkWith(t, sampler(), []int{0, 1}, impure, api.ErrLimit)
	impure.Exp = api.Exp{Args: repeated(num(1), 5000)}
	checkWith(t, sampler(), []int{0, 1}, impure, api.ErrLimit)
	impure.Exp = api.Exp{Args: repeated(num(1), 5)}
	checkWith(t, sampler(), []int{0, 1}, impure, api.ErrArg)
}

func TestPromise6Limits(t *testing.T) {
	for _, e := range []api.Exp{endless(), huge()} {
		for kind, p := range map[int]api.Part{
			api.PaStmt: {Stmt: leap(e)}, api.PaDecl: {Decl: choices("s", e)}, api.PaElem: {Elem: elem(api.FeOnce, e)}, api.PaExp: {Exp: e},
		} {
			p.Kind = kind
			checkWith(t, sampler(), samplePaths[kind], p, api.ErrLimit)
		}
	}
	// A label more, and the statement in the place of the last one is too large for the sampler.
	size := tree.Size(sampler()) - 1
	for _, x := range []struct {
		labels int
		want   api.Errno
	}{{1998 - size, api.OK}, {1999 - size, api.OK}, {2000 - size, api.ErrLimit}, {2001 - size, api.ErrLimit}} {
		p := api.Part{Kind: api.PaStmt, Stmt: labelled(empty(), repeated("l", x.labels)...)}
		checkWith(t, sampler(), []int{2}, p, x.want)
	}
	checkWith(t, sampler(), []int{0, 1}, api.Part{Kind: api.PaExp, Exp: deep(58)}, api.OK)
	checkWith(t, sampler(), []int{0, 1}, api.Part{Kind: api.PaExp, Exp: deep(59)}, api.ErrLimit)
	checkWith(t, sampler(), nil, api.Part{Kind: api.PaStmt, Stmt: leap(deep(59))}, api.OK)
	checkWith(t, sampler(), nil, api.Part{Kind: api.PaStmt, Stmt: leap(deep(60))}, api.ErrLimit)
	// What is replaced does not count.
	large := list(repeated(empty(), 1999)...)
	checkWith(t, large, nil, api.Part{Kind: api.PaStmt, Stmt: large}, api.OK)
	checkWith(t, large, []int{1998}, api.Part{Kind: api.PaStmt, Stmt: call("p")}, api.OK)
	checkWith(t, large, []int{1998}, api.Part{Kind: api.PaStmt, Stmt: list(empty())}, api.ErrLimit)
}

func TestPromise6Validity(t *testing.T) {
	exp := func(e api.Exp) api.Part { return api.Part{Kind: api.PaExp, Exp: e} }
	stmt := func(s api.Stmt) api.Part { return api.Part{Kind: api.PaStmt, Stmt: s} }
	s := sampler()
	checkWith(t, s, []int{1, 0}, exp(num(1)), api.ErrArg)
	checkWith(t, s, []int{1, 0}, exp(index("a", num(1))), api.OK)
	checkWith(t, s, []int{1, 2, 0}, exp(num(-1)), api.ErrArg)
	checkWith(t, s, []int{1, 2, 0}, exp(api.Exp{}), api.ErrArg)
	checkWith(t, s, []int{1, 2, 1}, stmt(when(num(1), empty())), api.ErrArg)
	checkWith(t, s, []int{1, 2, 1}, stmt(loop(name("i"), empty(), elem(1, num(1)))), api.ErrArg)
	checkWith(t, s, []int{1, 2}, stmt(when(num(1), empty())), api.OK)
	checkWith(t, s, []int{1, 2}, stmt(api.Stmt{}), api.ErrArg)
	checkWith(t, s, nil, stmt(list()), api.ErrArg)
	checkWith(t, s, nil, stmt(empty()), api.OK)
	checkWith(t, s, []int{0}, api.Part{Kind: api.PaDecl}, api.ErrArg)
	checkWith(t, s, []int{1, 1}, api.Part{Kind: api.PaElem, Elem: elem(api.FeStep, num(1))}, api.ErrArg)
}

func TestPromise7Owns(t *testing.T) {
	with := 0
	for _, s := range newMaker(17).stmts(1000) {
		var want []int
		for i, x := range spots(&s) {
			if d, ok := x.at.(*api.Decl); ok && d.Own {
				want = append(want, i)
			}
		}
		if len(want) > 1 {
			with++
		}
		if got, e := tree.Owns(s); e != api.OK || !same(got, want) {
			t.Errorf("Owns(%v) = %v, %d, not %v", s, got, e, want)
		}
	}
	if with < 10 {
		t.Errorf("only %d statements have several own declarations", with)
	}
	inner := block(arrays(true, 1, []string{"b"}, num(1), num(2)), block(variables(false, 1, "c", "d"), empty()))
	s := block(variables(true, api.TyInt, "a"), inner)
	s.Decls = append(s.Decls, variables(true, api.TyReal, "c"), procedure(0, "p", block(variables(true, 1, "d"), empty())))
	if got, e := tree.Owns(s); e != api.OK || !same(got, []int{1, 2, 5, 8}) {
		t.Errorf("%v, %d", got, e)
	}
	if got, e := tree.Owns(empty()); e != api.OK || len(got) != 0 {
		t.Errorf("%v, %d", got, e)
	}
}

// namesOf returns the identifiers that occur in a part.
func namesOf(at any) []string {
	found := map[string]bool{}
	for _, s := range spots(at) {
		var names []string
		switch x := s.at.(type) {
		case *api.Stmt:
			// Valid parts of the other kinds have no Text.
			names = append(names, x.Text)
			names = append(names, x.Labels...)
		case *api.Decl:
			names = append(names, x.Names...)
			for _, f := range x.Formals {
				names = append(names, f.Name)
			}
		case *api.Exp:
			if x.Kind != api.ExString {
				names = append(names, x.Text)
			}
		}
		for _, name := range names {
			found[name] = name != ""
		}
	}
	var names []string
	for name, is := range found {
		if is {
			names = append(names, name)
		}
	}
	slices.Sort(names)
	return names
}

func TestPromise8Names(t *testing.T) {
	m := newMaker(18)
	for _, s := range m.stmts(200) {
		if got, e := tree.Names(s); e != api.OK || !same(got, namesOf(&s)) {
			t.Errorf("Names(%v) = %v, %d, not %v", s, got, e, namesOf(&s))
		}
		x := m.exp(5)
		if got, e := tree.NamesExp(x); e != api.OK || !same(got, namesOf(&x)) {
			t.Errorf("NamesExp(%v) = %v, %d, not %v", x, got, e, namesOf(&x))
		}
	}
	body := labelled(loop(index("a", name("b")), call("p", function("f", quoted("not"), name("x10"))), elem(1, name("x9"))), "z", "l", "z")
	d := procedure(api.TyInt, "q", body, api.Formal{Name: "y"}, api.Formal{Name: "p"})
	if got, e := tree.Names(block(d, empty(), leap(name("b")))); e != api.OK || !same(got, []string{"a", "b", "f", "l", "p", "q", "x10", "x9", "y", "z"}) {
		t.Errorf("%v, %d", got, e)
	}
	for _, x := range []api.Exp{num(1), quoted("a"), truth(true), broken("1.5")} {
		if got, e := tree.NamesExp(x); e != api.OK || len(got) != 0 {
			t.Errorf("NamesExp(%v) = %v, %d", x, got, e)
		}
	}
}

// TestPromise4Errors hands parts that are not valid to all functions.
func TestPromise4Errors(t *testing.T) {
	for _, x := range []struct {
		e    api.Exp
		want api.Errno
	}{
		{num(-1), api.ErrArg}, {api.Exp{}, api.ErrArg}, {name("if"), api.ErrArg}, {one(api.OpNot, quoted("\"")), api.ErrArg},
		{endless(), api.ErrLimit}, {huge(), api.ErrLimit}, {deep(61), api.ErrLimit}, {api.Exp{Args: repeated(num(1), 2000)}, api.ErrLimit},
	} {
		checkRefused(t, leap(x.e), x.want)
		checkRefused(t, block(procedure(0, "p", leap(x.e)), empty()), x.want)
		got, e := tree.CopyExp(x.e)
		names, e2 := tree.NamesExp(x.e)
		text, e3 := tree.PrintExp(x.e)
		if !reflect.DeepEqual(got, api.Exp{}) || len(names) > 0 || text != "" || e != x.want || e2 != x.want || e3 != x.want {
			t.Errorf("%v %v %q: errors %d %d %d, not %d", got, names, text, e, e2, e3, x.want)
		}
		if text, e := tree.PrintDecl(choices("s", x.e)); text != "" || e != x.want {
			t.Errorf("PrintDecl: %q, %d, not %d", text, e, x.want)
		}
	}
	checkRefused(t, api.Stmt{}, api.ErrArg)
	checkRefused(t, list(), api.ErrArg)
	checkRefused(t, labelled(empty(), "L"), api.ErrArg)
	if text, e := tree.PrintDecl(api.Decl{}); text != "" || e != api.ErrArg {
		t.Errorf("PrintDecl: %q, %d", text, e)
	}
}

func checkRefused(t *testing.T, s api.Stmt, want api.Errno) {
	t.Helper()
	whole, e1 := tree.Copy(s)
	paths, e2 := tree.Paths(s)
	number, e3 := tree.Number(s, nil)
	part, e4 := tree.At(s, nil)
	other, e5 := tree.With(s, nil, api.Part{Kind: api.PaStmt, Stmt: empty()})
	owns, e6 := tree.Owns(s)
	names, e7 := tree.Names(s)
	text, e8 := tree.Print(s)
	for i, e := range []api.Errno{e1, e2, e3, e4, e5, e6, e7, e8, tree.Check(s), tree.Program(s)} {
		if e != want {
			t.Errorf("function %d: error %d, not %d", i+1, e, want)
		}
	}
	if !reflect.DeepEqual([]any{whole, part, other, number, text}, []any{api.Stmt{}, api.Part{}, api.Stmt{}, 0, ""}) || len(paths)+len(owns)+len(names) > 0 {
		t.Errorf("results with an error: %v %v %v %v %v %v %v %q", whole, paths, number, part, other, owns, names, text)
	}
}

// sizeOf and depthOf return the size and the depth of a part by the functions for statements and expressions, in which it is put.
func sizeOf(p api.Part) int {
	switch p.Kind {
	case api.PaStmt:
		return tree.Size(p.Stmt)
	case api.PaDecl:
		return tree.Size(api.Stmt{Decls: []api.Decl{p.Decl}}) - 1
	case api.PaElem:
		return tree.Size(api.Stmt{For: []api.Elem{p.Elem}}) - 1
	}
	return tree.SizeExp(p.Exp)
}

func depthOf(p api.Part) int {
	switch p.Kind {
	case api.PaStmt:
		return tree.Depth(p.Stmt)
	case api.PaDecl:
		return tree.Depth(api.Stmt{Decls: []api.Decl{p.Decl}}) - 1
	case api.PaElem:
		return tree.Depth(api.Stmt{For: []api.Elem{p.Elem}}) - 1
	}
	return tree.DepthExp(p.Exp)
}

// partAt returns a part that is there.
func partAt(t *testing.T, s api.Stmt, path []int) api.Part {
	t.Helper()
	p, e := tree.At(s, path)
	if e != api.OK {
		t.Fatalf("At(%v, %v): error %d", s, path, e)
	}
	return p
}

// pathsOf returns all paths of a valid statement.
func pathsOf(t *testing.T, s api.Stmt) [][]int {
	t.Helper()
	paths, e := tree.Paths(s)
	if e != api.OK {
		t.Fatalf("Paths(%v): error %d", s, e)
	}
	return paths
}

func TestPromise10Sizes(t *testing.T) {
	for _, s := range newMaker(19).stmts(60) {
		sizes := map[string]int{}
		paths := pathsOf(t, s)
		for _, path := range paths {
			p := partAt(t, s, path)
			if depthOf(p) > tree.Depth(s)-len(path) {
				t.Errorf("depth %d at %v in a statement of depth %d", depthOf(p), path, tree.Depth(s))
			}
			sizes[fmt.Sprint(path)] = sizeOf(p)
		}
		for _, path := range paths {
			sum := sizeOf(childless(partAt(t, s, path)))
			for i := 0; ; i++ {
				size, is := sizes[fmt.Sprint(append(slices.Clone(path), i))]
				if !is {
					break
				}
				sum += size
			}
			if sum != sizes[fmt.Sprint(path)] {
				t.Errorf("size %d at %v, but %d with its children", sizes[fmt.Sprint(path)], path, sum)
			}
		}
	}
}

// childless returns a part without its children.
func childless(p api.Part) api.Part {
	p.Stmt = api.Stmt{Kind: p.Stmt.Kind, Labels: p.Stmt.Labels, Text: p.Stmt.Text}
	p.Decl.Exps, p.Decl.Body, p.Elem.Exps, p.Exp.Args = nil, nil, nil, nil
	return p
}

func TestPromise11Paths(t *testing.T) {
	for _, s := range newMaker(20).stmts(100) {
		paths := pathsOf(t, s)
		known := map[string]bool{}
		declared := 0
		for i, path := range paths {
			if i > 0 && slices.Compare(paths[i-1], path) >= 0 {
				t.Errorf("the path %v behind %v", path, paths[i-1])
			}
			known[fmt.Sprint(path)] = true
			if len(path) > 0 && !known[fmt.Sprint(path[:len(path)-1])] {
				t.Errorf("the path %v without the one above it", path)
			}
			p := partAt(t, s, path)
			declared += len(p.Stmt.Labels) + len(p.Decl.Names) + len(p.Decl.Formals)
		}
		if len(paths) != tree.Size(s)-declared || len(paths[0]) != 0 {
			t.Errorf("%d paths, size %d, %d names", len(paths), tree.Size(s), declared)
		}
	}
}

func TestPromise11Children(t *testing.T) {
	for _, s := range newMaker(21).stmts(60) {
		for _, path := range pathsOf(t, s) {
			if len(path) == 0 {
				continue
			}
			last := len(path) - 1
			above := partAt(t, s, path[:last])
			children := slices.Collect(childrenOf(above))
			if got := partAt(t, s, path); !same(got, children[path[last]]) {
				t.Errorf("%v at %v, but the child is %v", got, path, children[path[last]])
			}
		}
	}
}

func childrenOf(p api.Part) func(func(api.Part) bool) {
	return func(yield func(api.Part) bool) {
		var l []api.Part
		for _, e := range slices.Concat(p.Stmt.Targets, p.Stmt.Exps, p.Decl.Exps, p.Elem.Exps, p.Exp.Args) {
			l = append(l, api.Part{Kind: api.PaExp, Exp: e})
		}
		for _, f := range p.Stmt.For {
			l = append(l, api.Part{Kind: api.PaElem, Elem: f})
		}
		for _, d := range p.Stmt.Decls {
			l = append(l, api.Part{Kind: api.PaDecl, Decl: d})
		}
		for _, s := range append(slices.Clone(p.Decl.Body), p.Stmt.Body...) {
			l = append(l, api.Part{Kind: api.PaStmt, Stmt: s})
		}
		for _, x := range l {
			if !yield(x) {
				return
			}
		}
	}
}

// another returns a random part of a kind.
func (m maker) another(kind int) api.Part {
	p := api.Part{Kind: kind}
	switch kind {
	case api.PaStmt:
		p.Stmt = m.stmt(4)
	case api.PaDecl:
		p.Decl = m.decl(4)
	case api.PaElem:
		p.Elem = m.elem(4)
	case api.PaExp:
		p.Exp = m.exp(4)
	}
	return p
}

func TestPromise12Replacing(t *testing.T) {
	m := newMaker(22)
	replaced := 0
	for _, s := range m.stmts(100) {
		paths := pathsOf(t, s)
		for _, path := range paths {
			old := partAt(t, s, path)
			p := m.another(old.Kind)
			result, e := tree.With(s, path, p)
			if e != api.OK {
				continue
			}
			replaced++
			if got := partAt(t, result, path); !same(got, p) {
				t.Errorf("%v at %v, not %v", got, path, p)
			}
			if back, e := tree.With(result, path, old); e != api.OK || !tree.Same(back, s) {
				t.Errorf("%v put back at %v gives %v, %d", old, path, back, e)
			}
			if tree.Size(result)-tree.Size(s) != sizeOf(p)-sizeOf(old) {
				t.Errorf("size %d becomes %d, as %d becomes %d", tree.Size(s), tree.Size(result), sizeOf(old), sizeOf(p))
			}
			checkBeside(t, s, result, paths, path)
		}
	}
	if replaced < 500 {
		t.Errorf("only %d parts are replaced", replaced)
	}
}

// checkBeside checks that the parts beside a path stay as they are.
func checkBeside(t *testing.T, s, result api.Stmt, paths [][]int, path []int) {
	t.Helper()
	if len(paths) > 60 {
		return
	}
	for _, other := range paths {
		shorter := min(len(other), len(path))
		if slices.Equal(other[:shorter], path[:shorter]) {
			continue
		}
		if !same(partAt(t, s, other), partAt(t, result, other)) {
			t.Errorf("the part at %v changes with the one at %v", other, path)
		}
	}
}

func TestPromise12Inside(t *testing.T) {
	m := newMaker(23)
	compared := 0
	for _, s := range m.stmts(200) {
		paths := pathsOf(t, s)
		outer := paths[m.Intn(len(paths))]
		p := partAt(t, s, outer)
		if p.Kind != api.PaStmt {
			continue
		}
		p = m.another(api.PaStmt)
		first, e := tree.With(s, outer, p)
		if e != api.OK {
			continue
		}
		inner := pathsOf(t, p.Stmt)
		path := inner[m.Intn(len(inner))]
		q := m.another(partAt(t, p.Stmt, path).Kind)
		one, e1 := tree.With(first, slices.Concat(outer, path), q)
		changed, e2 := tree.With(p.Stmt, path, q)
		if e1 != api.OK || e2 != api.OK {
			continue
		}
		two, e := tree.With(s, outer, api.Part{Kind: api.PaStmt, Stmt: changed})
		if compared++; e != api.OK || !tree.Same(one, two) {
			t.Errorf("%v and then %v: %v, but at once %v, %d", outer, path, one, two, e)
		}
	}
	if compared < 50 {
		t.Errorf("only %d are compared", compared)
	}
}

// merged returns the different strings of two lists, in ascending order.
func merged(a, b []string) []string {
	l := append(slices.Clone(a), b...)
	slices.Sort(l)
	return slices.Compact(l)
}

// namesIn returns the names of a part by the functions for statements and expressions.
func namesIn(t *testing.T, p api.Part) []string {
	t.Helper()
	var names []string
	e := api.OK
	switch p.Kind {
	case api.PaStmt:
		names, e = tree.Names(p.Stmt)
	case api.PaExp:
		names, e = tree.NamesExp(p.Exp)
	default:
		for child := range childrenOf(p) {
			names = merged(names, namesIn(t, child))
		}
		names = merged(names, p.Decl.Names)
		for _, f := range p.Decl.Formals {
			names = merged(names, []string{f.Name})
		}
	}
	if e != api.OK {
		t.Errorf("names of %v: error %d", p, e)
	}
	return names
}

func TestPromise17Names(t *testing.T) {
	for _, s := range newMaker(24).stmts(100) {
		for _, path := range pathsOf(t, s) {
			p := partAt(t, s, path)
			names := namesIn(t, p)
			for i, name := range names {
				if i > 0 && names[i-1] >= name || !lex.IsName(name) {
					t.Errorf("the names %q of %v", names, p)
				}
			}
			own := namesOf(childlessAt(p))
			for child := range childrenOf(p) {
				own = merged(own, namesIn(t, child))
			}
			if !slices.Equal(names, own) {
				t.Errorf("the names %q of %v, but %q of its children and its own", names, p, own)
			}
		}
	}
}

// childlessAt returns a pointer to a part without its children.
func childlessAt(p api.Part) any {
	p = childless(p)
	switch p.Kind {
	case api.PaStmt:
		return &p.Stmt
	case api.PaDecl:
		return &p.Decl
	case api.PaElem:
		return &p.Elem
	}
	return &p.Exp
}

func TestPromise17Owns(t *testing.T) {
	for _, s := range newMaker(25).stmts(100) {
		var want []int
		for i, path := range pathsOf(t, s) {
			if p := partAt(t, s, path); p.Decl.Own {
				want = append(want, i)
			}
		}
		if got, e := tree.Owns(s); e != api.OK || !slices.Equal(got, want) {
			t.Errorf("Owns(%v) = %v, %d, not %v", s, got, e, want)
		}
	}
}

// calls are all functions with results that have memory, for a statement, an expression, a path and a part.
var calls = map[string]func(s api.Stmt, e api.Exp, path []int, p api.Part) any{
	"Copy":     func(s api.Stmt, e api.Exp, path []int, p api.Part) any { r, _ := tree.Copy(s); return &r },
	"CopyExp":  func(s api.Stmt, e api.Exp, path []int, p api.Part) any { r, _ := tree.CopyExp(e); return &r },
	"Paths":    func(s api.Stmt, e api.Exp, path []int, p api.Part) any { r, _ := tree.Paths(s); return &r },
	"At":       func(s api.Stmt, e api.Exp, path []int, p api.Part) any { r, _ := tree.At(s, path); return &r },
	"With":     func(s api.Stmt, e api.Exp, path []int, p api.Part) any { r, _ := tree.With(s, path, p); return &r },
	"Owns":     func(s api.Stmt, e api.Exp, path []int, p api.Part) any { r, _ := tree.Owns(s); return &r },
	"Names":    func(s api.Stmt, e api.Exp, path []int, p api.Part) any { r, _ := tree.Names(s); return &r },
	"NamesExp": func(s api.Stmt, e api.Exp, path []int, p api.Part) any { r, _ := tree.NamesExp(e); return &r },
	"others": func(s api.Stmt, e api.Exp, path []int, p api.Part) any {
		r := []any{tree.Check(s), tree.CheckExp(e), tree.CheckDecl(p.Decl), tree.Program(s), tree.Size(s), tree.SizeExp(e), tree.Depth(s), tree.DepthExp(e)}
		n, _ := tree.Number(s, path)
		a, _ := tree.Print(s)
		b, _ := tree.PrintExp(e)
		c, _ := tree.PrintDecl(p.Decl)
		text := fmt.Sprint(r, n, a, b, c, tree.Same(s, s), tree.SameExp(e, e))
		return &text
	},
}

func TestPromise19NewMemory(t *testing.T) {
	m := newMaker(26)
	for _, original := range m.stmts(60) {
		s, e := clone(original), clone(m.exp(4))
		paths := pathsOf(t, s)
		path := clone(paths[m.Intn(len(paths))])
		p := clone(m.another(partAt(t, s, path).Kind))
		olds, olde, oldPath, oldp := clone(s), clone(e), clone(path), clone(p)
		for function, run := range calls {
			result, other := run(s, e, path, p), run(s, e, path, p)
			before := fmt.Sprintf("%+v", reflect.ValueOf(other).Elem())
			scribble(result)
			if after := fmt.Sprintf("%+v", reflect.ValueOf(other).Elem()); before != after {
				t.Errorf("%s: another result changes", function)
			}
			again := run(s, e, path, p)
			if after := fmt.Sprintf("%+v", reflect.ValueOf(again).Elem()); before != after {
				t.Errorf("%s: a later result changes", function)
			}
			if !reflect.DeepEqual([]any{s, e, path, p}, []any{olds, olde, oldPath, oldp}) {
				t.Fatalf("%s changes an argument", function)
			}
			if !isUntouched(s) || !isUntouched(e) || !isUntouched(path) || !isUntouched(p) {
				t.Fatalf("%s changes what is behind an argument", function)
			}
		}
	}
}

// TestPromise19Kept changes arguments behind a call.
func TestPromise19Kept(t *testing.T) {
	m := newMaker(27)
	for _, original := range m.stmts(60) {
		paths := pathsOf(t, original)
		path := paths[m.Intn(len(paths))]
		p := m.another(partAt(t, original, path).Kind)
		e := m.exp(4)
		for function, run := range calls {
			s, x, way, part := clone(original), clone(e), clone(path), clone(p)
			result := run(s, x, way, part)
			before := fmt.Sprintf("%+v", reflect.ValueOf(result).Elem())
			scribble(&s)
			scribble(&x)
			scribble(&way)
			scribble(&part)
			if after := fmt.Sprintf("%+v", reflect.ValueOf(result).Elem()); before != after {
				t.Errorf("%s keeps an argument", function)
			}
		}
	}
}

// TestPromise19Shared hands over statements whose lists share memory.
func TestPromise19Shared(t *testing.T) {
	labels, args := []string{"l"}, []api.Exp{function("f", name("a"), name("b"))}
	inner := labelled(list(call("p", args...), call("q", args...)), labels...)
	d := procedure(api.TyNone, "p", inner, api.Formal{Name: "x"})
	s := labelled(api.Stmt{Kind: api.StBlock, Decls: repeated(d, 2), Body: repeated(inner, 3)}, labels...)
	p := api.Part{Kind: api.PaStmt, Stmt: s}
	for function, run := range calls {
		for _, path := range [][]int{nil, {2}, {3, 1}} {
			if result := run(s, args[0], path, p); !isNew(result) {
				t.Errorf("%s: lists of a result share memory", function)
			}
		}
	}
}
