package tree_test

import (
	"slices"
	"strings"
	"testing"

	"manorboy/api"
	"manorboy/tree"
)

func checkExp(t *testing.T, e api.Exp, want api.Errno) {
	t.Helper()
	if got := tree.CheckExp(e); got != want {
		t.Errorf("CheckExp(%.300v) = %d, not %d", e, got, want)
	}
}

func checkStmt(t *testing.T, s api.Stmt, want api.Errno) {
	t.Helper()
	if got := tree.Check(s); got != want {
		t.Errorf("Check(%.300v) = %d, not %d", s, got, want)
	}
}

func checkDecl(t *testing.T, d api.Decl, want api.Errno) {
	t.Helper()
	if got := tree.CheckDecl(d); got != want {
		t.Errorf("CheckDecl(%.300v) = %d, not %d", d, got, want)
	}
}

// verdict is the error for what is within the limits.
func verdict(valid bool) api.Errno {
	if valid {
		return api.OK
	}
	return api.ErrArg
}

// repeated returns a list of the same element.
func repeated[T any](x T, count int) []T { return slices.Repeat([]T{x}, count) }

// longest is an identifier that has as many letters as it may.
var longest = strings.Repeat("x", api.MaxName)

func TestPromise1Integers(t *testing.T) {
	for n, want := range map[int]api.Errno{0: 0, 1: 0, api.MaxInt: 0, -1: 1, api.MaxInt + 1: 1, -api.MaxInt: 1, 1 << 62: 1, -1 << 63: 1} {
		checkExp(t, num(n), want)
	}
}

func TestPromise1Reals(t *testing.T) {
	for _, x := range []struct {
		real api.Real
		want api.Errno
	}{
		{api.Real{}, api.OK}, {api.Real{Man: 1 << 23}, api.OK}, {api.Real{Man: 1<<24 - 1, Exp: 150}, api.OK}, {api.Real{Man: 1, Exp: -150}, api.OK},
		{api.Real{Man: -1 << 23}, api.ErrArg}, {api.Real{Man: -1, Exp: -150}, api.ErrArg}, {api.Real{Man: 1}, api.ErrArg}, {api.Real{Exp: 1}, api.ErrArg},
		{api.Real{Man: 1 << 24}, api.ErrArg}, {api.Real{Man: 1 << 23, Exp: 151}, api.ErrArg}, {api.Real{Man: 1 << 23, Exp: -151}, api.ErrArg},
	} {
		checkExp(t, api.Exp{Kind: api.ExReal, Real: x.real}, x.want)
	}
}

func TestPromise1Strings(t *testing.T) {
	for c := range 256 {
		want := verdict(32 <= c && c <= 126 && c != 34)
		checkExp(t, quoted(string([]byte{byte(c)})), want)
		checkExp(t, quoted("a"+string([]byte{byte(c)})+"b"), want)
	}
	checkExp(t, quoted(""), api.OK)
	checkExp(t, quoted("begin; comment"), api.OK)
	checkExp(t, quoted(strings.Repeat("x", 80)), api.OK)
	checkExp(t, quoted(strings.Repeat("x", 81)), api.ErrArg)
	checkExp(t, quoted("é"), api.ErrArg)
}

// identifiers are strings, with whether they are identifiers.
var identifiers = map[string]bool{
	"a": true, "x1": true, longest: true, "begins": true, "e5": true,
	"": false, "begin": false, "comment": false, "eqv": false, "A": false, "1x": false, "a b": false, "a_": false, " a": false, longest + "x": false, "é": false, "\"a\"": false,
}

func TestPromise1Identifiers(t *testing.T) {
	for text, valid := range identifiers {
		want := verdict(valid)
		checkExp(t, name(text), want)
		checkExp(t, index(text, num(1)), want)
		checkExp(t, function(text, num(1)), want)
		checkStmt(t, call(text), want)
		checkStmt(t, labelled(empty(), text), want)
		checkStmt(t, labelled(list(empty()), "a", text, "b"), want)
		checkDecl(t, variables(false, api.TyInt, text), want)
		checkDecl(t, variables(false, api.TyInt, "a", text, "b"), want)
		checkDecl(t, arrays(false, api.TyInt, []string{"a", text}, num(1), num(2)), want)
		checkDecl(t, choices(text, num(1)), want)
		checkDecl(t, procedure(api.TyNone, text, empty()), want)
		checkDecl(t, procedure(api.TyNone, "f", empty(), api.Formal{Name: text}), want)
	}
}

// TestPromise1Expressions compares all values of the fields that make a difference with the tables.
func TestPromise1Expressions(t *testing.T) {
	right := 0
	for kind := -1; kind <= 13; kind++ {
		for op := -1; op <= 20; op++ {
			for args := range 11 {
				for _, text := range []string{"", "a", "if"} {
					for _, n := range []int{0, 1, -1} {
						for _, real := range []api.Real{{}, {Man: 1 << 23}, {Man: -1 << 23}, {Man: 1}} {
							e := api.Exp{Kind: kind, Op: op, N: n, Real: real, Text: text, Args: repeated(num(1), args)}
							want := verdict(fits(&e))
							if got := tree.CheckExp(e); got != want {
								t.Fatalf("CheckExp(%v) = %d, not %d", e, got, want)
							}
							if want == api.OK {
								right++
							}
						}
					}
				}
			}
		}
	}
	// 2 integers and reals each, 2 truth values, 3 strings, a name, 4 and 8 counts, 2 and 16 operators, and a choice.
	if want := 2 + 2 + 2 + 3 + 1 + 4 + 8 + 2 + 16 + 1; right != want {
		t.Errorf("%d expressions are right, not %d", right, want)
	}
}

func TestPromise1Operators(t *testing.T) {
	for op := range 25 {
		checkExp(t, one(op, num(1)), verdict(op == 1 || op == 2))
		checkExp(t, two(op, num(1), num(2)), verdict(3 <= op && op <= 18))
	}
}

func TestPromise1Counts(t *testing.T) {
	for count := range 12 {
		args := repeated(num(1), count)
		checkExp(t, index("a", args...), verdict(1 <= count && count <= 4))
		checkExp(t, function("a", args...), verdict(1 <= count && count <= 8))
		checkExp(t, api.Exp{Kind: api.ExOne, Op: api.OpNot, Args: args}, verdict(count == 1))
		checkExp(t, api.Exp{Kind: api.ExTwo, Op: api.OpEqv, Args: args}, verdict(count == 2))
		checkExp(t, api.Exp{Kind: api.ExIf, Args: args}, verdict(count == 3))
		checkStmt(t, call("p", args...), verdict(count <= 8))
		checkDecl(t, choices("s", args...), verdict(count >= 1))
		checkDecl(t, arrays(true, api.TyBool, []string{"a"}, args...), verdict(count == 2 || count == 4 || count == 6 || count == 8))
		var formals []api.Formal
		for i := range count {
			formals = append(formals, api.Formal{Name: "x" + string(rune('a'+i))})
		}
		checkDecl(t, procedure(api.TyInt, "f", empty(), formals...), verdict(count <= 8))
		if count >= 2 {
			formals[count-1].Name = "xa"
			checkDecl(t, procedure(api.TyInt, "f", empty(), formals...), api.ErrArg)
		}
	}
}

// TestPromise1Statements compares all numbers of elements of all lists with the tables.
func TestPromise1Statements(t *testing.T) {
	var s api.Stmt
	try := func() {
		want := verdict(fits(&s))
		if got := tree.Check(s); got != want {
			t.Fatalf("Check(%v) = %d, not %d", s, got, want)
		}
	}
	for kind := -1; kind <= 10; kind++ {
		for _, labels := range [][]string{nil, {"l", "l"}, {"do"}} {
			for _, text := range []string{"", "p", "if"} {
				for targets := range 3 {
					for exps := range 11 {
						for elems := range 3 {
							for decls := range 3 {
								for body := range 4 {
									s = api.Stmt{Labels: labels, Kind: kind, Text: text, Targets: repeated(name("a"), targets)}
									s.Exps, s.For = repeated(num(1), exps), repeated(elem(api.FeOnce, num(1)), elems)
									s.Decls, s.Body = repeated(variables(false, 1, "x"), decls), repeated(empty(), body)
									try()
								}
							}
						}
					}
				}
			}
		}
	}
}

func TestPromise1Elements(t *testing.T) {
	for kind := -1; kind <= 5; kind++ {
		for count := range 6 {
			f := elem(kind, repeated(num(1), count)...)
			want := verdict(kind == 1 && count == 1 || kind == 2 && count == 3 || kind == 3 && count == 2)
			checkStmt(t, loop(name("i"), empty(), f), want)
			checkStmt(t, loop(name("i"), empty(), elem(1, num(1)), f, elem(1, num(1))), want)
		}
	}
	checkStmt(t, loop(name("i"), empty()), api.ErrArg)
}

func TestPromise1Targets(t *testing.T) {
	for kind := -1; kind <= 13; kind++ {
		for _, e := range newMaker(1).exps(3, 300, 300) {
			if e.Kind != kind {
				continue
			}
			want := verdict(kind == api.ExName || kind == api.ExIndex)
			checkStmt(t, assign(num(1), e), want)
			checkStmt(t, assign(num(1), name("a"), e), want)
			checkStmt(t, assign(num(1), e, name("a")), want)
			checkStmt(t, loop(e, empty(), elem(1, num(1))), want)
		}
	}
	checkStmt(t, assign(num(1), name("if")), api.ErrArg)
	checkStmt(t, assign(num(1), index("a")), api.ErrArg)
	checkStmt(t, assign(num(1)), api.ErrArg)
}

func TestPromise1Conditional(t *testing.T) {
	b := truth(true)
	conditional, repetition := when(b, empty()), loop(name("i"), empty(), elem(1, num(1)))
	for _, s := range []api.Stmt{conditional, labelled(conditional, "l"), repetition, labelled(repetition, "l")} {
		checkStmt(t, s, api.OK)
		checkStmt(t, when(b, s), api.ErrArg)
		checkStmt(t, when(b, s, empty()), api.ErrArg)
		checkStmt(t, when(b, empty(), s), api.OK)
		checkStmt(t, when(b, list(s), empty()), api.OK)
		checkStmt(t, loop(name("i"), s, elem(1, num(1))), api.OK)
	}
	for _, s := range []api.Stmt{empty(), assign(b, name("a")), leap(b), call("p"), list(empty()), block(variables(false, 1, "a"), empty())} {
		checkStmt(t, when(b, s), api.OK)
		checkStmt(t, when(b, s, s), api.OK)
		checkStmt(t, when(b, s, s, s), api.ErrArg)
	}
	checkStmt(t, when(b), api.ErrArg)
}

// TestPromise1Declarations compares all numbers of elements of all lists with the tables.
func TestPromise1Declarations(t *testing.T) {
	formals := []api.Formal{{Name: "a"}, {Name: "b"}, {Name: "c"}, {Name: "d"}, {Name: "e"}, {Name: "f"}, {Name: "g"}, {Name: "h"}, {Name: "i"}}
	for kind := -1; kind <= 6; kind++ {
		for typ := -1; typ <= 5; typ++ {
			for names := range 3 {
				for exps := range 11 {
					for count := range 10 {
						for body := range 3 {
							for _, own := range []bool{false, true} {
								d := api.Decl{Kind: kind, Own: own, Type: typ, Names: repeated("x", names), Exps: repeated(num(1), exps), Formals: formals[:count], Body: repeated(empty(), body)}
								want := verdict(fits(&d))
								if got := tree.CheckDecl(d); got != want {
									t.Fatalf("CheckDecl(%v) = %d, not %d", d, got, want)
								}
							}
						}
					}
				}
			}
		}
	}
}

func TestPromise1Formals(t *testing.T) {
	right := 0
	for spec := -1; spec <= 8; spec++ {
		for typ := -1; typ <= 5; typ++ {
			for _, value := range []bool{false, true} {
				f := api.Formal{Name: "x", Value: value, Spec: spec, Type: typ}
				valid := slices.Contains(validFormals("x"), f)
				if valid {
					right++
				}
				checkDecl(t, procedure(api.TyNone, "p", empty(), f), verdict(valid))
				checkDecl(t, procedure(api.TyReal, "p", empty(), api.Formal{Name: "y"}, f), verdict(valid))
			}
		}
	}
	// 4 without a type; 3 variables, 4 arrays, 4 procedures; 3 variables and 3 arrays called by value.
	if right != 4+3+4+4+3+3 {
		t.Errorf("%d formal parameters are right", right)
	}
	// Names are declared twice in chapter 6 only; those of formal parameters are different.
	checkDecl(t, variables(false, api.TyInt, "a", "a"), api.OK)
	checkDecl(t, procedure(api.TyNone, "p", empty(), api.Formal{Name: "p"}), api.OK)
	checkDecl(t, procedure(api.TyNone, "p", empty(), api.Formal{Name: "x"}, api.Formal{Name: "x"}), api.ErrArg)
	checkDecl(t, procedure(api.TyNone, "p", empty(), api.Formal{Name: "x"}, api.Formal{Name: "y"}, api.Formal{Name: "x", Spec: api.SpLabel}), api.ErrArg)
}

// TestPromise1Inside breaks each part of valid statements in many ways.
func TestPromise1Inside(t *testing.T) {
	results := map[api.Errno]int{}
	for _, s := range newMaker(2).stmts(60) {
		checkStmt(t, s, api.OK)
		if tree.Size(s) > 60 {
			continue
		}
		variations(s, func(other api.Stmt, how string) {
			want := checked(&other)
			results[want]++
			if got := tree.Check(other); got != want {
				t.Errorf("Check(%v), which differs in %s, = %d, not %d", other, how, got, want)
			}
		})
	}
	if results[api.OK] < 500 || results[api.ErrArg] < 500 {
		t.Error(results)
	}
}

func TestPromise1InsideExpressionsAndDeclarations(t *testing.T) {
	m := newMaker(3)
	for range 60 {
		e, d := m.exp(4), m.decl(4)
		checkExp(t, e, checked(&e))
		checkDecl(t, d, checked(&d))
		if tree.SizeExp(e) <= 40 {
			variations(e, func(other api.Exp, how string) { checkExp(t, other, checked(&other)) })
		}
		if size, _ := measured(&d); size <= 60 {
			variations(d, func(other api.Decl, how string) { checkDecl(t, other, checked(&other)) })
		}
	}
}

func TestPromise1EmptyLists(t *testing.T) {
	for _, s := range newMaker(4).stmts(200) {
		checkStmt(t, emptied(s), api.OK)
	}
	checkStmt(t, emptied(api.Stmt{}), api.ErrArg)
	checkExp(t, emptied(num(1)), api.OK)
	checkExp(t, emptied(api.Exp{}), api.ErrArg)
	checkDecl(t, emptied(variables(true, 1, "a")), api.OK)
	checkDecl(t, emptied(api.Decl{}), api.ErrArg)
}

func TestPromise1Limits(t *testing.T) {
	// An error deep inside is found, but limits come first.
	wrong := labelled(list(repeated(empty(), 1997)...), "l")
	wrong.Body[1996].Kind = 0
	checkStmt(t, wrong, api.ErrArg)
	wrong.Labels = append(wrong.Labels, "if", "l")
	checkStmt(t, wrong, api.ErrLimit)
	checkStmt(t, api.Stmt{Labels: repeated("", 2000)}, api.ErrLimit)
	checkExp(t, api.Exp{Args: repeated(api.Exp{}, 2000)}, api.ErrLimit)
	checkExp(t, api.Exp{Args: repeated(api.Exp{}, 1999)}, api.ErrArg)
	checkDecl(t, api.Decl{Names: repeated("", 1000), Formals: repeated(api.Formal{}, 1000)}, api.ErrLimit)
	checkDecl(t, api.Decl{Names: repeated("", 1000), Formals: repeated(api.Formal{}, 999)}, api.ErrArg)
	// A statement that is within the limits alone is not within a larger one.
	checkStmt(t, when(truth(true), list(repeated(empty(), 1997)...)), api.OK)
	checkStmt(t, when(truth(true), list(repeated(empty(), 1998)...)), api.ErrLimit)
}

// endless returns an expression that is a part of itself.
func endless() api.Exp {
	e := one(api.OpNot, num(1))
	e.Args[0] = e
	return e
}

// huge returns an expression in little memory that has 2^1000 parts.
func huge() api.Exp {
	e := num(1)
	for range 1000 {
		e = two(api.OpAnd, e, e)
	}
	return e
}

func TestPromise1WithoutEnd(t *testing.T) {
	body := []api.Stmt{list(empty())}
	body[0].Body = body
	wide := list(repeated(empty(), 50)...)
	for range 50 {
		wide = list(repeated(wide, 50)...)
	}
	for _, e := range []api.Exp{endless(), huge()} {
		checkExp(t, e, api.ErrLimit)
		checkStmt(t, leap(e), api.ErrLimit)
		checkDecl(t, choices("s", e), api.ErrLimit)
	}
	for _, s := range []api.Stmt{body[0], wide, leap(endless()), leap(huge())} {
		checkStmt(t, s, api.ErrLimit)
		if tree.Size(s) != 0 || tree.Depth(s) != 0 || tree.Same(s, s) {
			t.Error("without an end, but it has a size, a depth, or is the same")
		}
	}
}

func TestPromise1Program(t *testing.T) {
	b := truth(true)
	for _, x := range []struct {
		s    api.Stmt
		want api.Errno
	}{
		{list(empty()), api.OK}, {block(variables(false, 1, "a"), empty()), api.OK}, {labelled(list(empty()), "l"), api.OK},
		{empty(), api.ErrKind}, {assign(b, name("a")), api.ErrKind}, {leap(b), api.ErrKind}, {when(b, list(empty())), api.ErrKind},
		{loop(name("i"), list(empty()), elem(1, b)), api.ErrKind}, {call("p"), api.ErrKind}, {labelled(call("p"), "l"), api.ErrKind},
		{list(), api.ErrArg}, {call("if"), api.ErrArg}, {api.Stmt{}, api.ErrArg}, {labelled(list(empty()), "if"), api.ErrArg},
		{list(repeated(empty(), 1999)...), api.OK}, {list(repeated(empty(), 2000)...), api.ErrLimit},
		{call("p", endless()), api.ErrLimit}, {list(repeated(call("if"), 2000)...), api.ErrLimit},
	} {
		if got := tree.Program(x.s); got != x.want {
			t.Errorf("Program(%.200v) = %d, not %d", x.s.Kind, got, x.want)
		}
	}
}

// checkMeasures compares Size and Depth, or SizeExp and DepthExp, with the rules.
func checkMeasures(t *testing.T, at any, size, depth int) {
	t.Helper()
	wantSize, wantDepth := measured(at)
	if wantSize > api.MaxNodes || wantDepth > api.MaxNest {
		wantSize, wantDepth = 0, 0
	}
	if size != wantSize || depth != wantDepth {
		t.Errorf("size %d and depth %d, not %d and %d, of %.300v", size, depth, wantSize, wantDepth, at)
	}
}

func TestPromise2Measures(t *testing.T) {
	m := newMaker(5)
	outside := 0
	for _, s := range append(m.stmts(300), some(m, 1500, 1500, func() api.Stmt { return m.wild(m.from(1, 12)) })...) {
		checkMeasures(t, &s, tree.Size(s), tree.Depth(s))
		if tree.Size(s) == 0 {
			outside++
		}
	}
	if outside < 5 {
		t.Errorf("only %d statements are too large", outside)
	}
	for range 1000 {
		e := m.wildExp(m.from(1, 8))
		checkMeasures(t, &e, tree.SizeExp(e), tree.DepthExp(e))
	}
	e := two(api.OpSub, name("a"), two(api.OpSub, name("b"), name("c")))
	if tree.SizeExp(e) != 5 || tree.DepthExp(e) != 3 {
		t.Errorf("size %d and depth %d", tree.SizeExp(e), tree.DepthExp(e))
	}
}

func TestPromise2Edges(t *testing.T) {
	for _, less := range []int{0, 1, -1} {
		count := api.MaxNodes - less
		want := max(count, 0)
		if less < 0 {
			want = 0
		}
		third := count / 3
		for i, s := range []api.Stmt{
			{Labels: repeated("a", count-1)},
			{Body: repeated(empty(), count-1)},
			{Exps: repeated(num(1), count-1)},
			{Targets: repeated(num(1), count-1)},
			{For: repeated(elem(7), count-1)},
			{Decls: repeated(api.Decl{}, count-1)},
			{Decls: []api.Decl{{Names: repeated("a", count-2)}}},
			{Decls: []api.Decl{{Formals: repeated(api.Formal{}, count-2)}}},
			{Decls: []api.Decl{{Exps: repeated(num(1), count-2)}}},
			{Decls: []api.Decl{{Body: repeated(empty(), count-2)}}},
			{For: []api.Elem{{Exps: repeated(num(1), count-2)}}},
			{Exps: []api.Exp{{Args: repeated(num(1), count-2)}}},
			{Labels: repeated("a", third), Exps: repeated(num(1), third), Body: repeated(empty(), count-1-2*third)},
		} {
			if got := tree.Size(s); got != want {
				t.Errorf("statement %d of size %d: %d", i, count, got)
			}
			if (tree.Depth(s) > 0) != (want > 0) || (tree.Check(s) == api.ErrLimit) != (want == 0) {
				t.Errorf("statement %d of size %d: depth %d, error %d", i, count, tree.Depth(s), tree.Check(s))
			}
		}
		if got := tree.SizeExp(api.Exp{Args: repeated(num(1), count-1)}); got != want {
			t.Errorf("an expression of size %d: %d", count, got)
		}
	}
}

// deep returns an expression of a depth.
func deep(depth int) api.Exp {
	e := num(1)
	for range depth - 1 {
		e = one(api.OpNeg, e)
	}
	return e
}

func TestPromise2Depths(t *testing.T) {
	for depth := 1; depth <= 70; depth++ {
		e, want := deep(depth), depth
		if depth > api.MaxNest {
			want = 0
		}
		if tree.DepthExp(e) != want || tree.SizeExp(e) != want {
			t.Errorf("depth %d: %d, size %d", depth, tree.DepthExp(e), tree.SizeExp(e))
		}
		checkExp(t, e, map[bool]api.Errno{true: api.OK, false: api.ErrLimit}[want > 0])
		if want == api.MaxNest {
			// Each kind of part adds one.
			for _, s := range []api.Stmt{leap(e), block(choices("s", e), empty()), loop(name("i"), empty(), elem(1, e)), assign(e, index("a", e))} {
				checkStmt(t, s, api.ErrLimit)
			}
		}
	}
	checkStmt(t, leap(deep(59)), api.OK)
	checkStmt(t, loop(name("i"), empty(), elem(1, deep(58))), api.OK)
	checkStmt(t, loop(name("i"), empty(), elem(1, deep(59))), api.ErrLimit)
	checkStmt(t, block(choices("s", deep(58)), empty()), api.OK)
	checkStmt(t, block(choices("s", deep(59)), empty()), api.ErrLimit)
	checkDecl(t, choices("s", deep(59)), api.OK)
	checkDecl(t, choices("s", deep(60)), api.ErrLimit)
}

func TestPromise18Limits(t *testing.T) {
	for n := 2; n <= 2100; n++ {
		s := list(repeated(empty(), n-1)...)
		want, size := api.OK, n
		if n > 2000 {
			want, size = api.ErrLimit, 0
		}
		if got := tree.Check(s); got != want || tree.Size(s) != size {
			t.Errorf("%d empty statements: error %d, size %d", n-1, got, tree.Size(s))
		}
	}
	checkStmt(t, list(), api.ErrArg)
	s := empty()
	for n := 1; n <= 100; n++ {
		s = list(s)
		want, depth := api.OK, n+1
		if n > 59 {
			want, depth = api.ErrLimit, 0
		}
		if got := tree.Check(s); got != want || tree.Depth(s) != depth || tree.Size(s) != depth {
			t.Errorf("%d compound statements: error %d, depth %d, size %d", n, got, tree.Depth(s), tree.Size(s))
		}
	}
}

// TestPromise16Parts checks that the parts of valid statements are valid.
func TestPromise16Parts(t *testing.T) {
	for _, s := range newMaker(6).stmts(150) {
		for _, x := range spots(&s) {
			p, e := tree.At(s, x.path)
			switch {
			case e != api.OK:
				t.Errorf("At %v: error %d", x.path, e)
			case p.Kind == api.PaStmt:
				checkStmt(t, p.Stmt, api.OK)
			case p.Kind == api.PaDecl:
				checkDecl(t, p.Decl, api.OK)
			case p.Kind == api.PaElem:
				checkStmt(t, loop(name("i"), empty(), p.Elem), api.OK)
			default:
				checkExp(t, p.Exp, api.OK)
			}
		}
	}
}

// TestPromise16Replacing puts valid parts of all kinds everywhere.
func TestPromise16Replacing(t *testing.T) {
	m := newMaker(7)
	counts := map[api.Errno]int{}
	for _, s := range m.stmts(150) {
		all := spots(&s)
		for _, x := range all {
			p := api.Part{Kind: x.part().Kind}
			allowed := true
			switch p.Kind {
			case api.PaStmt:
				p.Stmt = m.stmt(3)
				allowed = isClosed(p.Stmt) || !isFirstOfConditional(all, x)
			case api.PaExp:
				p.Exp = m.exp(3)
				allowed = isTarget(p.Exp) || !isTargetOf(all, x)
			case api.PaDecl:
				p.Decl = m.decl(3)
			case api.PaElem:
				p.Elem = m.elem(3)
			}
			result, e := tree.With(s, x.path, p)
			counts[e]++
			if allowed && e != api.OK && e != api.ErrLimit || !allowed && e == api.OK {
				t.Errorf("With(%v, %v, %v): error %d", s, x.path, p, e)
			}
			if e == api.OK {
				checkStmt(t, result, api.OK)
			}
		}
	}
	if counts[api.OK] < 1000 || counts[api.ErrArg] < 50 {
		t.Error(counts)
	}
}

func isClosed(s api.Stmt) bool { return s.Kind != api.StIf && s.Kind != api.StFor }

// above returns the statement of which a part is a child.
func above(all []spot, x spot) *api.Stmt {
	for _, other := range all {
		if s, ok := other.at.(*api.Stmt); ok && len(x.path) > 0 && slices.Equal(other.path, x.path[:len(x.path)-1]) {
			return s
		}
	}
	return &api.Stmt{}
}

func isFirstOfConditional(all []spot, x spot) bool {
	s := above(all, x)
	return s.Kind == api.StIf && x.at == &s.Body[0]
}

func isTargetOf(all []spot, x spot) bool {
	s := above(all, x)
	for i := range s.Targets {
		if x.at == &s.Targets[i] {
			return true
		}
	}
	return false
}
