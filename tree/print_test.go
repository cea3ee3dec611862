package tree_test

import (
	"fmt"
	"slices"
	"strings"
	"testing"

	"manorboy/api"
	"manorboy/lex"
	"manorboy/tree"
)

func checkText(t *testing.T, part any, want string) {
	t.Helper()
	if got, e := textOf(part); got != want || e != api.OK {
		t.Errorf("the text of %v is %q, %d, not %q", part, got, e, want)
	}
}

// textOf returns the text of a part that has one.
func textOf(part any) (string, api.Errno) {
	switch x := part.(type) {
	case api.Stmt:
		return tree.Print(x)
	case api.Decl:
		return tree.PrintDecl(x)
	case api.Exp:
		return tree.PrintExp(x)
	}
	panic(part)
}

// wanted returns the text that the rules say.
func wanted(part any) string {
	switch x := part.(type) {
	case api.Stmt:
		return joined(stmtTokens(x))
	case api.Decl:
		return joined(declTokens(x))
	case api.Exp:
		return joined(expTokens(x, 0))
	}
	panic(part)
}

func TestPromise9Examples(t *testing.T) {
	a, b := name("a"), name("b")
	checkText(t, two(api.OpMul, one(api.OpNeg, a), b), "(- a) * b")
	checkText(t, one(api.OpNeg, two(api.OpMul, a, b)), "- a * b")
	checkText(t, two(api.OpSub, a, two(api.OpSub, b, name("c"))), "a - (b - c)")
	checkText(t, two(api.OpPow, two(api.OpPow, a, num(2)), one(api.OpNeg, num(1))), "a ^ 2 ^ (- 1)")
	checkText(t, one(api.OpNot, two(api.OpLt, a, function("f", num(1), index("x", name("i"))))), "not a < f(1, x[i])")
	p, q, r := name("p"), name("q"), name("r")
	checkText(t, choice(choice(p, q, r), num(1), choice(q, broken("2.5"), num(3))), "if (if p then q else r) then 1 else if q then 2.5 else 3")
	checkText(t, labelled(list(labelled(empty(), "n"), leap(index("s", num(2)))), "l", "m"), "l: m: begin n:; goto s[2] end")
	formals := []api.Formal{{Name: "x", Value: true, Spec: api.SpVar, Type: api.TyInt}, {Name: "y", Spec: api.SpLabel}, {Name: "z"}}
	checkText(t, procedure(api.TyInt, "f", empty(), formals...), "integer procedure f(x, y, z); value x; integer x; label y;")
	checkText(t, arrays(true, api.TyReal, []string{"a", "b"}, num(1), name("n"), one(api.OpNeg, num(1)), num(0)), "own real array a, b[1: n, - 1: 0]")
	checkText(t, when(b, empty(), call("p")), "if b then else p")
}

func TestPromise9Expressions(t *testing.T) {
	a, b := name("a"), name("b")
	for want, e := range map[string]api.Exp{
		"0": num(0), "2147483647": num(api.MaxInt), "0.0": broken("0"), "7.0e-46": broken("7e-46"), "150.0": broken("150"), "1.0e20": broken("1e20"),
		"true": truth(true), "false": truth(false), `""`: quoted(""), `" a ;"`: quoted(" a ;"), `"("`: quoted("("), longest: name(longest),
		"a[1]": index("a", num(1)), "a[1, b, 2, 3]": index("a", num(1), b, num(2), num(3)), "a(b)": function("a", b),
		"a(a(b), a[a(1)])":                      function("a", function("a", b), index("a", function("a", num(1)))),
		"f(1, 2, 3, 4, 5, 6, 7, 8)":             function("f", num(1), num(2), num(3), num(4), num(5), num(6), num(7), num(8)),
		"a[(a + b) * 1]":                        index("a", two(api.OpMul, two(api.OpAdd, a, b), num(1))),
		"a(if a then b else 1, - a)":            function("a", choice(a, b, num(1)), one(api.OpNeg, a)),
		"- a":                                   one(api.OpNeg, a),
		"- (- a)":                               one(api.OpNeg, one(api.OpNeg, a)),
		"not a":                                 one(api.OpNot, a),
		"not (not a)":                           one(api.OpNot, one(api.OpNot, a)),
		"a * (- b)":                             two(api.OpMul, a, one(api.OpNeg, b)),
		"- a - b":                               two(api.OpSub, one(api.OpNeg, a), b),
		"a - (- b)":                             two(api.OpSub, a, one(api.OpNeg, b)),
		"a / b // a":                            two(api.OpQuo, two(api.OpDiv, a, b), a),
		"a // (b / a)":                          two(api.OpQuo, a, two(api.OpDiv, b, a)),
		"a ^ (b ^ 2)":                           two(api.OpPow, a, two(api.OpPow, b, num(2))),
		"(a < b) = (b > a)":                     two(api.OpEq, two(api.OpLt, a, b), two(api.OpGt, b, a)),
		"a and b or a":                          two(api.OpOr, two(api.OpAnd, a, b), a),
		"a and (b or a)":                        two(api.OpAnd, a, two(api.OpOr, b, a)),
		"a imp (b imp a) eqv b":                 two(api.OpEqv, two(api.OpImp, a, two(api.OpImp, b, a)), b),
		"not (a and b)":                         one(api.OpNot, two(api.OpAnd, a, b)),
		"not a and b":                           two(api.OpAnd, one(api.OpNot, a), b),
		"(not a) = b":                           two(api.OpEq, one(api.OpNot, a), b),
		"(if a then b else a) + 1":              two(api.OpAdd, choice(a, b, a), num(1)),
		"a <= b":                                two(api.OpLe, a, b),
		"a /= b":                                two(api.OpNe, a, b),
		"a >= (- b) ^ 2":                        two(api.OpGe, a, two(api.OpPow, one(api.OpNeg, b), num(2))),
		"if a then (if a then b else a) else b": choice(a, choice(a, b, a), b),
	} {
		checkText(t, e, want)
	}
}

func TestPromise9Statements(t *testing.T) {
	a, b := name("a"), name("b")
	once := elem(api.FeOnce, num(1))
	for want, s := range map[string]api.Stmt{
		"":                        empty(),
		"l:":                      labelled(empty(), "l"),
		"a := 1":                  assign(num(1), a),
		"l: a := b[1] := a := b":  labelled(assign(b, a, index("b", num(1)), a), "l"),
		"a := if a then b else 1": assign(choice(a, b, num(1)), a),
		"goto a":                  leap(a),
		"goto if a then b else a": leap(choice(a, b, a)),
		"goto a[1]":               leap(index("a", num(1))),
		"if a then b":             when(a, call("b")),
		"if a then":               when(a, empty()),
		"if a then else":          when(a, empty(), empty()),
		"if a then l: else m:":    when(a, labelled(empty(), "l"), labelled(empty(), "m")),
		"if if a then b else a then b else if a then b":           when(choice(a, b, a), call("b"), when(a, call("b"))),
		"if a then begin if a then b end else b":                  when(a, list(when(a, call("b"))), call("b")),
		"for a := 1 do":                                           loop(a, empty(), once),
		"for a[1] := 1, 1 do l: b":                                loop(index("a", num(1)), labelled(call("b"), "l"), once, once),
		"for a := 1 step 2 until 3, a while b do":                 loop(a, empty(), elem(api.FeStep, num(1), num(2), num(3)), elem(api.FeWhile, a, b)),
		"for a := if a then b else a while if a then b else a do": loop(a, empty(), elem(api.FeWhile, choice(a, b, a), choice(a, b, a))),
		"p":                       call("p"),
		"p(a)":                    call("p", a),
		`p("a", 1, - b)`:          call("p", quoted("a"), num(1), one(api.OpNeg, b)),
		"begin end":               list(empty()),
		"begin; end":              list(empty(), empty()),
		"begin;; p end":           list(empty(), empty(), call("p")),
		"begin p; q end":          list(call("p"), call("q")),
		"begin begin end end":     list(list(empty())),
		"begin integer a; end":    block(variables(false, api.TyInt, "a"), empty()),
		"begin procedure p;; end": block(procedure(api.TyNone, "p", empty()), empty()),
		"begin procedure p; begin real x; x end; p; q end":     block(procedure(api.TyNone, "p", block(variables(false, api.TyReal, "x"), call("x"))), call("p"), call("q")),
		"l: begin own integer a; switch s := l; goto s[1] end": labelled(api.Stmt{Kind: api.StBlock, Decls: []api.Decl{variables(true, api.TyInt, "a"), choices("s", name("l"))}, Body: []api.Stmt{leap(index("s", num(1)))}}, "l"),
	} {
		checkText(t, s, want)
	}
}

func TestPromise9Declarations(t *testing.T) {
	a, b := name("a"), name("b")
	for want, d := range map[string]api.Decl{
		"integer a":             variables(false, api.TyInt, "a"),
		"real a, b":             variables(false, api.TyReal, "a", "b"),
		"own boolean a, b, c":   variables(true, api.TyBool, "a", "b", "c"),
		"integer array a[1: 2]": arrays(false, api.TyInt, []string{"a"}, num(1), num(2)),
		"own boolean array a, b[a: b, 1: 2, a[1]: a(1), 3: - 4]": arrays(true, api.TyBool, []string{"a", "b"}, a, b, num(1), num(2), index("a", num(1)), function("a", num(1)), num(3), one(api.OpNeg, num(4))),
		"real array a[if a then b else a: b]":                    arrays(false, api.TyReal, []string{"a"}, choice(a, b, a), b),
		"switch s := l":                                          choices("s", name("l")),
		"switch s := l, s[1], if a then b else a, b":             choices("s", name("l"), index("s", num(1)), choice(a, b, a), b),
		"procedure p;":                                           procedure(api.TyNone, "p", empty()),
		"real procedure p; p := 1":                               procedure(api.TyReal, "p", assign(num(1), name("p"))),
		"boolean procedure p(x); x":                              procedure(api.TyBool, "p", call("x"), api.Formal{Name: "x"}),
		"procedure p; l: begin end":                              procedure(api.TyNone, "p", labelled(list(empty()), "l")),
		"procedure p(x); label x;":                               procedure(api.TyNone, "p", empty(), api.Formal{Name: "x", Spec: api.SpLabel}),
		"procedure p(x); switch x;":                              procedure(api.TyNone, "p", empty(), api.Formal{Name: "x", Spec: api.SpSwitch}),
		"procedure p(x); string x;":                              procedure(api.TyNone, "p", empty(), api.Formal{Name: "x", Spec: api.SpString}),
		"procedure p(x); real x;":                                procedure(api.TyNone, "p", empty(), api.Formal{Name: "x", Spec: api.SpVar, Type: api.TyReal}),
		"procedure p(x); array x;":                               procedure(api.TyNone, "p", empty(), api.Formal{Name: "x", Spec: api.SpArray}),
		"procedure p(x); integer array x;":                       procedure(api.TyNone, "p", empty(), api.Formal{Name: "x", Spec: api.SpArray, Type: api.TyInt}),
		"procedure p(x); procedure x;":                           procedure(api.TyNone, "p", empty(), api.Formal{Name: "x", Spec: api.SpProc}),
		"procedure p(x); boolean procedure x;":                   procedure(api.TyNone, "p", empty(), api.Formal{Name: "x", Spec: api.SpProc, Type: api.TyBool}),
		"procedure p(x); value x; real array x;":                 procedure(api.TyNone, "p", empty(), api.Formal{Name: "x", Value: true, Spec: api.SpArray, Type: api.TyReal}),
		"procedure p(z, y, x); value z, x; integer z; array y; real x; begin end": procedure(api.TyNone, "p", list(empty()),
			api.Formal{Name: "z", Value: true, Spec: api.SpVar, Type: api.TyInt}, api.Formal{Name: "y", Spec: api.SpArray}, api.Formal{Name: "x", Value: true, Spec: api.SpVar, Type: api.TyReal}),
	} {
		checkText(t, d, want)
	}
}

// TestPromise9Levels puts each expression into each place of another one.
func TestPromise9Levels(t *testing.T) {
	var l []api.Exp
	for op := api.OpNeg; op <= api.OpEqv; op++ {
		if op <= api.OpNot {
			l = append(l, one(op, name("a")))
		} else {
			l = append(l, two(op, name("a"), num(1)))
		}
	}
	l = append(l, choice(name("p"), name("q"), name("r")), index("a", num(1), num(2)), function("f", num(1), num(2)), broken("1.5"), truth(false))
	for _, outer := range l {
		for i := range outer.Args {
			for _, inner := range l {
				e := clone(outer)
				e.Args[i] = inner
				checkText(t, e, wanted(e))
			}
		}
	}
}

func TestPromise9Random(t *testing.T) {
	m := newMaker(30)
	for _, s := range m.stmts(400) {
		checkText(t, s, wanted(s))
		e, d := m.exp(6), m.decl(5)
		if tree.SizeExp(e) > 0 {
			checkText(t, e, wanted(e))
		}
		if tree.CheckDecl(d) == api.OK {
			checkText(t, d, wanted(d))
		}
	}
}

func TestPromise9Length(t *testing.T) {
	var formals []api.Formal
	for c := range 8 {
		formals = append(formals, api.Formal{Name: strings.Repeat(string(rune('a'+c)), 16), Value: true, Spec: api.SpArray, Type: api.TyBool})
	}
	for _, s := range []api.Stmt{
		block(choices(longest, repeated(quoted(strings.Repeat("~", 80)), 1996)...), empty()),
		list(repeated(call(longest, quoted(strings.Repeat("x", 80))), 999)...),
		labelled(empty(), repeated(longest, 1999)...),
		{Kind: api.StBlock, Decls: repeated(procedure(api.TyBool, longest, labelled(empty(), longest), formals...), 166), Body: []api.Stmt{empty()}},
		list(repeated(when(two(api.OpMul, num(api.MaxInt), two(api.OpMul, num(api.MaxInt), num(api.MaxInt))), empty(), empty()), 249)...),
	} {
		if text, e := tree.Print(s); e != api.OK || len(text) < 10000 || len(text) >= 250000 || text != wanted(s) {
			t.Errorf("a text of %d bytes, error %d", len(text), e)
		}
	}
}

// small are all parts with few names, up to some sizes: expressions, statements and declarations.
func small() (exps []api.Exp, stmts []api.Stmt, decls []api.Decl) {
	exps = slices.Concat(enumerate(5, 5).exps...)
	a := enumerate(7, 2)
	return exps, slices.Concat(a.stmts...), slices.Concat(a.decls...)
}

// checkDifferent checks that no two parts of a list have the same key.
func checkDifferent[T any](t *testing.T, l []T, key func(T) string) {
	t.Helper()
	seen := map[string]T{}
	for _, x := range l {
		text := key(x)
		if other, is := seen[text]; is {
			t.Fatalf("%v and %v are both %q", other, x, text)
		}
		seen[text] = x
	}
}

func printed[T any](t *testing.T) func(T) string {
	return func(part T) string {
		text, e := textOf(part)
		if e != api.OK {
			t.Fatalf("the text of %v: error %d", part, e)
		}
		return text
	}
}

func TestPromise13AllSmallParts(t *testing.T) {
	exps, stmts, decls := small()
	if len(exps) < 10000 || len(stmts) < 10000 || len(decls) < 1000 {
		t.Fatalf("only %d expressions, %d statements, and %d declarations", len(exps), len(stmts), len(decls))
	}
	checkDifferent(t, exps, printed[api.Exp](t))
	checkDifferent(t, stmts, printed[api.Stmt](t))
	checkDifferent(t, decls, printed[api.Decl](t))
}

// TestPromise13Variations compares the texts of statements that differ in one thing.
func TestPromise13Variations(t *testing.T) {
	compared := 0
	for _, s := range newMaker(31).stmts(60) {
		text := printed[api.Stmt](t)(s)
		checkText(t, clone(s), text)
		checkText(t, emptied(s), text)
		if tree.Size(s) > 60 {
			continue
		}
		variations(s, func(other api.Stmt, how string) {
			if tree.Check(other) != api.OK {
				return
			}
			compared++
			if printed[api.Stmt](t)(other) == text {
				t.Errorf("%v and %v, which differ in %s, have the text %q", s, other, how, text)
			}
		})
	}
	if compared < 500 {
		t.Errorf("only %d are compared", compared)
	}
}

// TestPromise13Replacements compares the texts of statements that differ in one part.
func TestPromise13Replacements(t *testing.T) {
	m := newMaker(32)
	for _, s := range m.stmts(200) {
		text := printed[api.Stmt](t)(s)
		for _, x := range spots(&s) {
			other, e := tree.With(s, x.path, m.another(x.part().Kind))
			if e == api.OK && tree.Same(s, other) != (printed[api.Stmt](t)(other) == text) {
				t.Errorf("%v and %v have the same text %q, or other ones", s, other, text)
			}
		}
	}
}

func TestPromise14Parts(t *testing.T) {
	for _, s := range newMaker(33).stmts(150) {
		text := printed[api.Stmt](t)(s)
		for _, path := range pathsOf(t, s) {
			part := ""
			switch p := partAt(t, s, path); p.Kind {
			case api.PaStmt:
				part = printed[api.Stmt](t)(p.Stmt)
			case api.PaDecl:
				part = printed[api.Decl](t)(p.Decl)
			case api.PaExp:
				part = printed[api.Exp](t)(p.Exp)
			}
			if !strings.Contains(text, part) {
				t.Errorf("%q, at %v, is not in %q", part, path, text)
			}
		}
	}
}

// lexed returns what the tokens of a text are, wherever they are.
func lexed(t *testing.T, text string) string {
	t.Helper()
	tokens, e, at := lex.Lex(text)
	if e != api.OK {
		t.Fatalf("Lex(%q): error %d at %d", text, e, at)
	}
	for i := range tokens {
		tokens[i].At, tokens[i].End = 0, 0
	}
	return fmt.Sprintf("%#v", tokens)
}

// TestPromise15Tokens reads the texts of random parts, and checks where blanks are.
func TestPromise15Tokens(t *testing.T) {
	m := newMaker(34)
	for _, s := range m.stmts(300) {
		checkTokens(t, printed[api.Stmt](t)(s), stmtTokens(s))
		e, d := m.exp(5), m.decl(4)
		checkTokens(t, printed[api.Exp](t)(e), expTokens(e, 0))
		checkTokens(t, printed[api.Decl](t)(d), declTokens(d))
	}
}

// checkTokens checks that Lex reads tokens from a text.
func checkTokens(t *testing.T, text string, want []string) {
	t.Helper()
	tokens, e, at := lex.Lex(text)
	if e != api.OK {
		t.Errorf("Lex(%q): error %d at %d", text, e, at)
	}
	var got []string
	for _, x := range tokens {
		got = append(got, text[x.At:x.End])
	}
	if !slices.Equal(got, want) {
		t.Errorf("Lex(%q) = %q, not %q", text, got, want)
	}
	if comments, _, _ := lex.Comments(text); len(comments) > 0 {
		t.Errorf("%q has comments", text)
	}
}

func TestPromise15AllSmallParts(t *testing.T) {
	exps, stmts, decls := small()
	checkDifferent(t, exps, func(e api.Exp) string { return lexed(t, printed[api.Exp](t)(e)) })
	checkDifferent(t, stmts, func(s api.Stmt) string { return lexed(t, printed[api.Stmt](t)(s)) })
	checkDifferent(t, decls, func(d api.Decl) string { return lexed(t, printed[api.Decl](t)(d)) })
}
