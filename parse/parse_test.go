package parse_test

import (
	"fmt"
	"slices"
	"strings"
	"testing"

	"manorboy/api"
	"manorboy/lex"
	"manorboy/parse"
	"manorboy/tree"
)

// lexed returns the tokens of a text.
func lexed(t *testing.T, text string) []api.Token {
	t.Helper()
	tokens, e, at := lex.Lex(text)
	if e != api.OK {
		t.Fatalf("Lex(%q): error %d at %d", text, e, at)
	}
	return tokens
}

// spelt returns the texts of tokens, of which some can be invalid.
func spelt(tokens []api.Token) string {
	var words []string
	for _, x := range tokens {
		word, e, _ := lex.Print([]api.Token{x})
		if e != api.OK {
			word = fmt.Sprint(x)
		}
		words = append(words, word)
	}
	return strings.Join(words, " ")
}

// offsetOf returns the offset of the token with an index, or of the end.
func offsetOf(text string, tokens []api.Token, index int) int {
	if index == len(tokens) {
		return len(text)
	}
	return tokens[index].At
}

// checkProgram checks the program of a text, as it is shown, in all ways to get it.
func checkProgram(t *testing.T, text, want string) {
	t.Helper()
	s, e, at := parse.Parse(text)
	if e != api.OK || at != 0 || showStmt(s) != want || tree.Program(s) != api.OK {
		t.Errorf("Parse(%q) = %s, %d at %d, not %s", text, showStmt(s), e, at, want)
	}
	other, e, at := parse.Tokens(lexed(t, text))
	if e != api.OK || at != 0 || !tree.Same(other, s) {
		t.Errorf("Tokens(%q) = %s, %d at %d, not %s", text, showStmt(other), e, at, want)
	}
	if e, at := parse.Syntax(lexed(t, text)); e != api.OK || at != 0 {
		t.Errorf("Syntax(%q) = %d at %d", text, e, at)
	}
}

func checkStmt(t *testing.T, text, want string) {
	t.Helper()
	s, e, at := parse.ParseStmt(text)
	if e != api.OK || at != 0 || showStmt(s) != want || tree.Check(s) != api.OK {
		t.Errorf("ParseStmt(%q) = %s, %d at %d, not %s", text, showStmt(s), e, at, want)
	}
}

func checkExp(t *testing.T, text, want string) {
	t.Helper()
	x, e, at := parse.ParseExp(text)
	if e != api.OK || at != 0 || showExp(x) != want || tree.CheckExp(x) != api.OK {
		t.Errorf("ParseExp(%q) = %s, %d at %d, not %s", text, showExp(x), e, at, want)
	}
}

// checkError checks an error at an offset of a text, in all functions for programs. It is one of Syntax, too, if this is said.
func checkError(t *testing.T, text string, want api.Errno, offset int, isSyntax bool) {
	t.Helper()
	if s, e, at := parse.Parse(text); e != want || at != offset || !isZero(s) {
		t.Errorf("Parse(%.200q) = %s, %d at %d, not %d at %d", text, showStmt(s), e, at, want, offset)
	}
	if printed, e, at := parse.Format(text); e != want || at != offset || printed != "" {
		t.Errorf("Format(%.200q) = %q, %d at %d, not %d at %d", text, printed, e, at, want, offset)
	}
	if pieces, e, at := parse.Places(text); e != want || at != offset || len(pieces) > 0 {
		t.Errorf("Places(%.200q) = %v, %d at %d, not %d at %d", text, pieces, e, at, want, offset)
	}
	if number, e := parse.Find(text, 0); e != want || number != 0 {
		t.Errorf("Find(%.200q, 0) = %d, %d, not %d", text, number, e, want)
	}
	tokens := lexed(t, text)
	s, e, at := parse.Tokens(tokens)
	if e != want || offsetOf(text, tokens, at) != offset && at+offset != 0 || !isZero(s) {
		t.Errorf("Tokens(%.200q) = %s, %d at token %d, not %d at %d", text, showStmt(s), e, at, want, offset)
	}
	e, at = parse.Syntax(tokens)
	if isSyntax && (e != want || offsetOf(text, tokens, at) != offset) || !isSyntax && (e != api.OK || at != 0) {
		t.Errorf("Syntax(%.200q) = %d at token %d, not %d at %d", text, e, at, want, offset)
	}
}

func isZero(s api.Stmt) bool { return tree.Same(s, api.Stmt{}) }

func isZeroExp(e api.Exp) bool { return tree.SameExp(e, api.Exp{}) }

func checkStmtError(t *testing.T, text string, want api.Errno, offset int) {
	t.Helper()
	if s, e, at := parse.ParseStmt(text); e != want || at != offset || !isZero(s) {
		t.Errorf("ParseStmt(%.200q) = %s, %d at %d, not %d at %d", text, showStmt(s), e, at, want, offset)
	}
}

func checkExpError(t *testing.T, text string, want api.Errno, offset int) {
	t.Helper()
	if x, e, at := parse.ParseExp(text); e != want || at != offset || !isZeroExp(x) {
		t.Errorf("ParseExp(%.200q) = %s, %d at %d, not %d at %d", text, showExp(x), e, at, want, offset)
	}
}

func TestPromise1Expressions(t *testing.T) {
	for text, want := range map[string]string{
		"1": "1", "1.5": "1.5", "true": "true", "false": "false", "\"and\"": `"and"`, "x": "x",
		"a[1]": "(index a 1)", "a[1, b, c[2], 4]": "(index a 1 b (index c 2) 4)",
		"f(1)": "(call f 1)", "f(1, 2, 3, 4, 5, 6, 7, g(x))": "(call f 1 2 3 4 5 6 7 (call g x))",
		"(x)": "x", "((a + b))": "(+ a b)",
		"- a * b + 1": "(+ (neg (* a b)) 1)", "- a + b": "(+ (neg a) b)", "- a ^ b": "(neg (^ a b))", "(- a) * b": "(* (neg a) b)",
		"+ a": "a", "+ a * b": "(* a b)", "+ a - b": "(- a b)", "+ (+ a)": "a", "a + (+ b)": "(+ a b)", "- (+ a)": "(neg a)", "+ (- a)": "(neg a)",
		"a < + b": "(< a b)", "- a < - b": "(< (neg a) (neg b))", "not + a": "(not a)", "not - a = b": "(not (= (neg a) b))",
		"a - b - c": "(- (- a b) c)", "a - (b - c)": "(- a (- b c))", "a ^ b ^ c": "(^ (^ a b) c)", "a ^ (b ^ c)": "(^ a (^ b c))",
		"a / b // c * d": "(* (// (/ a b) c) d)", "a imp b imp c": "(imp (imp a b) c)", "a eqv b eqv c": "(eqv (eqv a b) c)",
		"a or b and c": "(or a (and b c))", "a and b or c": "(or (and a b) c)", "a imp b or c": "(imp a (or b c))", "a eqv b imp c": "(eqv a (imp b c))", "a imp b eqv c": "(eqv (imp a b) c)",
		"not a and not b": "(and (not a) (not b))", "not (not a)": "(not (not a))", "(a < b) < c": "(< (< a b) c)",
		"if p then q else if r then 1 else 2":          "(if p q (if r 1 2))",
		"if (if p then q else r) then 1 else 2":        "(if (if p q r) 1 2)",
		"if p or q then a + b else a - b":              "(if (or p q) (+ a b) (- a b))",
		"(if p then q else r) + 1":                     "(+ (if p q r) 1)",
		"f(if p then q else r, a[if p then 1 else 2])": "(call f (if p q r) (index a (if p 1 2)))",
	} {
		checkExp(t, text, want)
		checkStmt(t, "goto "+text, "(goto "+want+")")
		checkProgram(t, "begin v := "+text+" end", "(list (assign (v) "+want+"))")
	}
	for op, sign := range opNames {
		if op > api.OpNot {
			checkExp(t, "a "+sign+" b", "("+sign+" a b)")
		}
	}
}

func TestPromise1WrongExpressions(t *testing.T) {
	for text, at := range map[string]int{
		"": 0, " ": 1, "a < b < c": 6, "a = b /= c": 6, "2 ^ - 1": 4, "2 * + 1": 4, "not not p": 4, "a + not b": 4, "a < not b": 4, "- - a": 2, "+ - a": 2, "- + a": 2,
		"a b": 2, "a +": 3, "(a": 2, "a)": 1, "()": 1, "f()": 2, "a[]": 2, "a[1": 3, "a[1, ]": 5, "a[1)": 3, "f(1]": 3, "a[1, 2, 3, 4, 5]": 12, "f(1, 2, 3, 4, 5, 6, 7, 8, 9)": 24,
		"1 + if p then q else r": 4, "if p then q": 11, "if if p then q else r then 1 else 2": 3, "if p then if q then 1 else 2 else 3": 10, "if p then q else": 16,
		"(if p then q else r": 19, "if": 2, "1(2)": 1, "1 2": 2, "f(1)(2)": 4, "a[1][2]": 4, "(a)[1]": 3, "\"a\" \"b\"": 4, "x := 1": 2, "goto": 0, "* a": 0, "begin end": 0, "a;": 1, "true false": 5,
	} {
		checkExpError(t, text, api.ErrForm, at)
	}
}

func TestPromise1Statements(t *testing.T) {
	for text, want := range map[string]string{
		"": "(empty)", " ": "(empty)", "l:": "l: (empty)", "l: m: p": "l: m: (call p)",
		"x := 1": "(assign (x) 1)", "x := y": "(assign (x) y)", "x := y := z": "(assign (x y) z)", "x := a[1] := y + 1": "(assign (x (index a 1)) (+ y 1))",
		"a[b[1], 2] := b[1] := b[2]": "(assign ((index a (index b 1) 2) (index b 1)) (index b 2))", "x := f(y)": "(assign (x) (call f y))", "x := (y)": "(assign (x) y)",
		"x := if p then q else r": "(assign (x) (if p q r))", "l: x := y := m": "l: (assign (x y) m)",
		"goto l": "(goto l)", "goto s[1]": "(goto (index s 1))", "goto (l)": "(goto l)", "goto if p then l else m": "(goto (if p l m))",
		"p": "(call p)", "p(x)": "(call p x)", "p(1, a[2], \"s\", - x, q, (5), 6, 7)": `(call p 1 (index a 2) "s" (neg x) q 5 6 7)`,
		"begin end": "(list (empty))", "begin ; end": "(list (empty) (empty))", "begin p; q; end": "(list (call p) (call q) (empty))", "begin begin end end": "(list (list (empty)))",
		"if a then b": "(if a (call b))", "if a then else": "(if a (empty) (empty))", "if a then l: else m:": "(if a l: (empty) m: (empty))",
		"if a then begin if b then c end else d":                                           "(if a (list (if b (call c))) (call d))",
		"if a then b else if c then d else e":                                              "(if a (call b) (if c (call d) (call e)))",
		"if a then b else for i := 1 do if c then d else e":                                "(if a (call b) (for (i) (once 1) (if c (call d) (call e))))",
		"if a then x := if b then c else d else e":                                         "(if a (assign (x) (if b c d)) (call e))",
		"if if a then b else c then d else e":                                              "(if (if a b c) (call d) (call e))",
		"for i := 1 do":                                                                    "(for (i) (once 1) (empty))",
		"for a[1, 2] := 1, 2 step 3 until 4, b while c do l: p":                            "(for ((index a 1 2)) (once 1) (step 2 3 4) (while b c) l: (call p))",
		"for i := if p then 1 else 2 step - 1 until if p then 3 else 4 do for j := a do p": "(for (i) (step (if p 1 2) (neg 1) (if p 3 4)) (for (j) (once a) (call p)))",
		"l: begin integer i; i := 1 end":                                                   "l: (block (integer (i)) (assign (i) 1))",
	} {
		checkStmt(t, text, want)
		checkStmt(t, "k: "+text, "k: "+want)
		checkProgram(t, "begin "+text+" end", "(list "+want+")")
		checkProgram(t, "k: begin integer x; "+text+"; "+text+" end", "k: (block (integer (x)) "+want+" "+want+")")
	}
}

func TestPromise1WrongStatements(t *testing.T) {
	for text, at := range map[string]int{
		"x := (y) := 1": 9, "x := + y := 1": 9, "x := y + 1 := 1": 11, "x := 1 := 1": 7, "x := f(1) := 1": 10, "x := (a[1]) := 1": 12, "x := - y := 1": 9, "x := not y := 1": 11,
		"x + 1": 2, "x :=": 4, "x := ;": 5, "x[1]": 4, "x[1] + 1": 5, "x[1, 2, 3, 4, 5] := 1": 12, "x[] := 1": 2, "f(1) := 1": 5, "p(": 2, "p()": 2, "p(1": 3, "p(1, 2, 3, 4, 5, 6, 7, 8, 9)": 24, "p(1)(2)": 4,
		"1": 0, "(p)": 0, "- x": 0, "l: 1": 3, "a[1]: p": 4, ": p": 0, "p;": 1, "p q": 2, "else": 0, "end": 0, "integer i": 0, "\"x\"": 0,
		"goto": 4, "goto ;": 5, "goto l := 1": 7, "goto goto l": 5,
		"if a then if b then c": 10, "if a then for i := 1 do p": 10, "if a then l: if b then c": 13, "if a then l: for i := 1 do p": 13, "if a then b else c else d": 19, "if a b": 5, "if": 2, "if a": 4, "if then": 3, "else p": 0,
		"if a then x := if b then c": 26, "if a then b; else c": 11,
		"for": 3, "for i": 5, "for i := 1": 10, "for i := do": 9, "for (i) := 1 do": 4, "for i := j := 1 do": 11, "for i := 1 step 2 do": 18, "for i := 1 step 2 until": 23, "for i := 1 until 2 do": 11, "for i := 1 while do": 17, "for f(1) := 1 do": 5, "for i := 1, do": 12, "for i := 1 step 2 until 3 step 4 until 5 do": 26, "for i := 1 while a step 2 do": 19, "for 1 := 1 do": 4, "for l: i := 1 do": 5, "for i[1 := 1 do": 8,
		"begin": 5, "begin p": 7, "begin p q end": 8, "begin end begin end": 16, "begin p; integer i; q end": 9, "begin ; integer i end": 8, "begin integer i end": 16, "begin l: integer i; end": 9,
	} {
		checkStmtError(t, text, api.ErrForm, at)
	}
}

func TestPromise1Declarations(t *testing.T) {
	for text, want := range map[string]string{
		"integer i": "(integer (i))", "real x, y": "(real (x y))", "own boolean a, b, c": "(own boolean (a b c))",
		"array a[1: 2]": "(real array (a) 1 2)", "integer array a, b[1: n, - 1: 0]": "(integer array (a b) 1 n (neg 1) 0)", "own real array a[0: 1, 2: 3, 4: 5, 6: 7]": "(own real array (a) 0 1 2 3 4 5 6 7)",
		"array a[1: 2], b, c[0: n, 1: 2]":                "(real array (a) 1 2) (real array (b c) 0 n 1 2)",
		"own boolean array a[1: 2], b[3: 4], c, d[5: 6]": "(own boolean array (a) 1 2) (own boolean array (b) 3 4) (own boolean array (c d) 5 6)",
		"array a[if p then 1 else 2: b[3]]":              "(real array (a) (if p 1 2) (index b 3))",
		"switch s := l":                                  "(switch (s) l)",
		"switch s := l, if p then m else n, t[1]":        "(switch (s) l (if p m n) (index t 1))",
		"procedure p;":                                   "(procedure (p) () (empty))",
		"real procedure p; p := 1":                       "(real procedure (p) () (assign (p) 1))",
		"procedure p(x); l: x":                           "(procedure (p) (x) l: (call x))",
		"integer procedure p(a, b, c, d, e, f, g, h); begin integer i; i end": "(integer procedure (p) (a b c d e f g h) (block (integer (i)) (call i)))",
		"procedure p(x, y); value x; integer x;":                              "(procedure (p) (x:value-integer y) (empty))",
		"procedure p(x, y); value y, x; integer x; real array y;":             "(procedure (p) (x:value-integer y:value-real-array) (empty))",
		"procedure p(x, y); real y, x;":                                       "(procedure (p) (x:real y:real) (empty))",
		"procedure p(a, b, c, d, e, f, g, h); label a; switch b; string c; array d; boolean array e; procedure f; real procedure g; boolean h; q": "(procedure (p) (a:label b:switch c:string d:array e:boolean-array f:procedure g:real-procedure h:boolean) (call q))",
		"boolean procedure p(x); procedure x; if x then p := true":                                                                                "(boolean procedure (p) (x:procedure) (if x (assign (p) true)))",
		"procedure p; begin procedure q(x); value x; real x; ; q(1) end":                                                                          "(procedure (p) () (block (procedure (q) (x:value-real) (empty)) (call q 1)))",
		"procedure p(x, y); integer x; value y; integer y;":                                                                                       "", // wrong
	} {
		text = "begin " + text + "; p end"
		if want == "" {
			checkError(t, text, api.ErrForm, strings.Index(text, "value"), true)
		} else {
			checkProgram(t, text, "(block "+want+" (call p))")
		}
	}
}

func TestPromise1WrongDeclarations(t *testing.T) {
	for text, at := range map[string]int{
		"integer": 13, "integer i j;": 16, "integer i,;": 16, "integer i": 15, "integer 1;": 14, "integer real i;": 14, "integer i; own": 20, "integer i, real j;": 17, "integer i := 1;": 16,
		"own i;": 10, "own array a[1: 2];": 10, "own procedure p;;": 10, "own real procedure p;;": 15, "own switch s := l;": 10, "own own real x;": 10,
		"array a;": 13, "array a": 13, "array a[1];": 15, "array a[1: 2": 18, "array a[];": 14, "array a[1: 2, ];": 20, "array a[1: 2, 3];": 21, "array a[1: 2: 3];": 18, "array [1: 2];": 12, "array a[1: 2] b[3: 4];": 20, "array a[1: 2], ;": 21, "array a[1: 2], b;": 22, "array a[1: 2, 1: 2, 1: 2, 1: 2, 1: 2];": 36, "array a, b: c;": 16, "integer array integer a[1: 2];": 20, "array a[, 1: 2];": 14,
		"switch s;": 14, "switch := l;": 13, "switch s, t := l;": 14, "switch s := ;": 18, "switch s := l, ;": 21, "switch s := l m;": 20, "integer switch s := l;": 14, "switch s[1] := l;": 14,
		"procedure p x;": 18, "procedure p();": 18, "procedure p(x;": 19, "procedure p(x y);": 20, "procedure p(x, );": 21, "procedure p(1);": 18, "procedure p(a, b, c, d, e, f, g, h, i);": 40, "procedure (x);": 16, "procedure p(integer x);": 18, "procedure p(x)": 20, "procedure": 15,
		"procedure p(x); value;": 27, "procedure p(x); value x": 29, "procedure p(x); value integer x;": 28, "procedure p(x); value x; value x;": 31, "procedure p(x); integer x[1];": 31, "procedure p(x); integer;": 29, "procedure p(x); own integer x;": 22, "procedure p(x); integer label x;": 30, "procedure p(x); label integer x;": 28, "procedure p(x); array x[1: 2];": 29, "procedure p(x); procedure x(y);": 33, "procedure p(x); label x, ;": 31, "procedure p(x); integer x": 31, "procedure p(x); string procedure x;": 29, "procedure p(x); x; label": 25,
	} {
		text = "begin " + text
		checkError(t, text, api.ErrForm, at, true)
	}
}

func TestPromise1Programs(t *testing.T) {
	checkProgram(t, "begin end", "(list (empty))")
	checkProgram(t, "l: m: begin end of all", "l: m: (list (empty))")
	checkProgram(t, "begin integer i; end", "(block (integer (i)) (empty))")
	checkProgram(t, "begin comment x; p; comment y; q; begin r end x y end", "(list (call p) (call q) (list (call r)))")
	for text, at := range map[string]int{
		"": 0, " \n": 2, "x := 1": 2, "begin end;": 9, "p": 1, "l:": 2, "l: p": 4, "l: p: q": 7, "l: ;": 3, "1": 0, "end": 0, "if": 0, "l": 1, "begin": 5, "begin begin end": 15, "begin end else": 10, "begin end end": 10, "comments begin end": 9,
	} {
		checkError(t, text, api.ErrForm, at, true)
	}
}

func TestPromise1Lex(t *testing.T) {
	for text, want := range map[string]api.Errno{
		"begin x := 1 $ end": api.ErrForm, "x := 1 $": api.ErrForm, "begin procedure p(x, x);; $ end": api.ErrForm, "begin end; 2147483648": api.ErrRange, "p abcdefghijklmnopq": api.ErrLimit, ") 1e99": api.ErrRange, "comment": api.ErrForm,
		strings.Repeat(" ", api.MaxSource+1): api.ErrLimit, strings.Repeat("x ", api.MaxTokens) + "y": api.ErrLimit,
	} {
		_, e, offset := lex.Lex(text)
		if e != want {
			t.Fatalf("Lex(%.20q): error %d", text, e)
		}
		if s, e, at := parse.Parse(text); e != want || at != offset || !isZero(s) {
			t.Errorf("Parse(%.20q): error %d at %d, not %d at %d", text, e, at, want, offset)
		}
		if printed, e, at := parse.Format(text); e != want || at != offset || printed != "" {
			t.Errorf("Format(%.20q): error %d at %d, not %d at %d", text, e, at, want, offset)
		}
		if pieces, e, at := parse.Places(text); e != want || at != offset || len(pieces) > 0 {
			t.Errorf("Places(%.20q): error %d at %d, not %d at %d", text, e, at, want, offset)
		}
		if number, e := parse.Find(text, 0); e != want || number != 0 {
			t.Errorf("Find(%.20q): error %d, not %d", text, e, want)
		}
		checkStmtError(t, text, want, offset)
		checkExpError(t, text, want, offset)
	}
}

// invalid are lists of tokens that lex.Check refuses.
func invalid() map[string][]api.Token {
	x, begin, end := api.Token{Kind: api.TkName, Text: "x"}, api.Token{Kind: api.TkWord, Text: "begin"}, api.Token{Kind: api.TkWord, Text: "end"}
	return map[string][]api.Token{
		"no kind":            {begin, {}, end},
		"behind a wrong one": {x, x, {Kind: 7}},
		"a comment":          {begin, {Kind: api.TkWord, Text: "comment"}, end},
		"behind end":         {begin, end, x},
		"a number":           {x, {Kind: api.TkInt, N: -1}},
		"many, one invalid":  append(slices.Repeat([]api.Token{x}, 200), api.Token{Kind: api.TkSign, Text: "$"}),
		"too many":           slices.Repeat([]api.Token{x}, api.MaxTokens+1),
		"too many, invalid":  slices.Repeat([]api.Token{{}}, api.MaxTokens+1),
	}
}

func TestPromise1InvalidTokens(t *testing.T) {
	for name, tokens := range invalid() {
		want, index := lex.Check(tokens)
		if want == api.OK {
			t.Fatalf("%s: no error", name)
		}
		check := func(function string, isNothing bool, e api.Errno, at int) {
			if e != want || at != index || !isNothing {
				t.Errorf("%s of %s: error %d at %d, not %d at %d", function, name, e, at, want, index)
			}
		}
		e, at := parse.Syntax(tokens)
		check("Syntax", true, e, at)
		s, e, at := parse.Tokens(tokens)
		check("Tokens", isZero(s), e, at)
		behind, e, at := parse.Complete(tokens)
		check("Complete", len(behind) == 0, e, at)
		fix, e, at := parse.Repair(tokens)
		check("Repair", fix == api.Fix{}, e, at)
	}
	many := slices.Repeat([]api.Token{{Kind: api.TkName, Text: "x"}}, api.MaxTokens)
	if e, at := parse.Syntax(many); e != api.ErrForm || at != 1 {
		t.Errorf("Syntax: error %d at %d", e, at)
	}
}

// checkNext compares which tokens can follow tokens with what the rules say.
func checkNext(t *testing.T, r *recognizer, tokens []api.Token) {
	t.Helper()
	expected := r.expected()
	for _, next := range everyToken() {
		e, at := parse.Syntax(append(slices.Clone(tokens), next))
		if lexError, _ := lex.Check(append(slices.Clone(tokens), next)); lexError != api.OK {
			if expected[symbolOf(next)] {
				t.Errorf("the rules allow %q behind %q", symbolOf(next), spelt(tokens))
			}
			continue
		}
		if isRight := e == api.OK || at > len(tokens); isRight != expected[symbolOf(next)] {
			t.Errorf("behind %q, %q: error %d at %d", spelt(tokens), symbolOf(next), e, at)
		}
	}
}

// everyToken are the tokens, one of each kind that the rules know.
func everyToken() []api.Token {
	list := []api.Token{{Kind: api.TkName, Text: "y"}, {Kind: api.TkInt, N: 7}, {Kind: api.TkReal}, {Kind: api.TkString, Text: "begin"}}
	for _, text := range lex.Signs() {
		list = append(list, api.Token{Kind: api.TkSign, Text: text})
	}
	for _, text := range lex.Words() {
		if text != "comment" {
			list = append(list, api.Token{Kind: api.TkWord, Text: text})
		}
	}
	return list
}

// TestPromise1NextTokens compares, behind each beginning of random programs, which tokens are wrong with what the rules say.
func TestPromise1NextTokens(t *testing.T) {
	g, w := newGrammar(), newWriter(1)
	for range 60 {
		w.program(w.from(2, 4))
		if len(w.tokens) > 120 {
			continue
		}
		r := newRecognizer(g, "program")
		for i, x := range w.tokens {
			checkNext(t, r, w.tokens[:i])
			if !r.read(x) {
				t.Fatalf("the rules do not allow %q", spelt(w.tokens[:i+1]))
			}
		}
		if !r.complete("program") {
			t.Fatalf("the rules do not allow %q", spelt(w.tokens))
		}
		checkNext(t, r, w.tokens)
	}
}

// TestPromise1ShortLists compares Syntax with the rules for all beginnings of programs of some length, and all tokens behind them.
func TestPromise1ShortLists(t *testing.T) {
	g := newGrammar()
	count := 0
	var visit func(tokens []api.Token)
	visit = func(tokens []api.Token) {
		r := newRecognizer(g, "program")
		for _, x := range tokens {
			r.read(x)
		}
		count++
		checkNext(t, r, tokens)
		if len(tokens) == 4 {
			return
		}
		expected := r.expected()
		for _, next := range everyToken() {
			if expected[symbolOf(next)] {
				visit(append(slices.Clone(tokens), next))
			}
		}
	}
	visit(nil)
	if count < 500 {
		t.Errorf("only %d beginnings", count)
	}
}

// mutate changes some tokens of a list.
func (w *writer) mutate(tokens []api.Token) []api.Token {
	tokens = slices.Clone(tokens)
	all := everyToken()
	for range w.from(1, 3) {
		i := w.Intn(len(tokens))
		switch w.Intn(4) {
		case 0:
			tokens = slices.Delete(tokens, i, i+1)
		case 1:
			tokens = slices.Insert(tokens, i, all[w.Intn(len(all))])
		case 2:
			tokens[i] = all[w.Intn(len(all))]
		case 3:
			j := w.Intn(len(tokens))
			tokens[i], tokens[j] = tokens[j], tokens[i]
		}
		if len(tokens) == 0 {
			return tokens
		}
	}
	return tokens
}

// TestPromise1WrongTokens compares Syntax with the rules for random programs in which tokens have been changed.
func TestPromise1WrongTokens(t *testing.T) {
	g, w := newGrammar(), newWriter(2)
	right := 0
	for range 400 {
		w.program(w.from(2, 4))
		if len(w.tokens) > 150 {
			continue
		}
		tokens := w.mutate(w.tokens)
		if e, _ := lex.Check(tokens); e != api.OK {
			continue
		}
		want, index := g.firstWrong("program", tokens)
		if e, at := parse.Syntax(tokens); e != want || at != index {
			t.Errorf("Syntax(%q) = %d at %d, not %d at %d", spelt(tokens), e, at, want, index)
		}
		if want == api.OK {
			right++
		}
	}
	if right < 5 {
		t.Errorf("only %d are programs", right)
	}
}

// TestPromise1WrongParts does the same for single statements and expressions.
func TestPromise1WrongParts(t *testing.T) {
	g, w := newGrammar(), newWriter(3)
	for range 300 {
		w.clear()
		start := []string{"statement", "expression"}[w.Intn(2)]
		if start == "statement" {
			w.stmt(3)
		} else {
			w.exp(0, 4)
		}
		if len(w.tokens) == 0 || len(w.tokens) > 100 {
			continue
		}
		w.tokens = w.mutate(w.tokens)
		text, e, _ := lex.Print(w.tokens)
		if e != api.OK {
			continue
		}
		want, index := g.firstWrong(start, w.tokens)
		offset := 0
		if want != api.OK {
			offset = offsetOf(text, lexed(t, text), index)
		}
		at := 0
		if start == "statement" {
			_, e, at = parse.ParseStmt(text)
		} else {
			_, e, at = parse.ParseExp(text)
		}
		// Behind the first wrong token come faulty identifiers.
		if want != api.OK && (e != want || at != offset) || want == api.OK && e == api.ErrForm {
			t.Errorf("%q: error %d at %d, not %d at %d", text, e, at, want, offset)
		}
	}
}

func TestPromise1Open(t *testing.T) {
	repeat := strings.Repeat
	for text, want := range map[string]struct {
		e  api.Errno
		at int
	}{
		repeat("begin ", 199) + "a := (1) " + repeat("end ", 199): {api.ErrLimit, 0}, // the depth
		repeat("begin ", 200) + "a := (1) " + repeat("end ", 200): {api.ErrLimit, 1205},
		repeat("begin ", 201):                                             {api.ErrLimit, 1200},
		repeat("begin ", 200):                                             {api.ErrForm, 1200},
		repeat("begin ", 200) + ")":                                       {api.ErrForm, 1200},
		repeat("begin ", 200) + "(":                                       {api.ErrForm, 1200},
		repeat("begin ", 200) + "[":                                       {api.ErrForm, 1200},
		repeat("begin ", 200) + "a[1] := 2":                               {api.ErrLimit, 1201},
		repeat("begin ", 200) + "p(1)":                                    {api.ErrLimit, 1201},
		repeat("begin ", 200) + "goto f(1)":                               {api.ErrLimit, 1206},
		repeat("begin ", 200) + "array a[1: 2]":                           {api.ErrLimit, 1207},
		repeat("begin ", 200) + "procedure p(x)":                          {api.ErrLimit, 1211},
		repeat("begin ", 200) + "end; begin p; begin":                     {api.ErrLimit, 1214},
		repeat("begin ", 199) + "p(1); p(a[1]":                            {api.ErrLimit, 1203},
		repeat("begin ", 199) + "p(1); a[1] := b[1]; p(1(":                {api.ErrForm, 1217},
		"begin x := " + repeat("(", 199) + "1" + repeat(")", 199) + "end": {api.OK, 0},
		"begin x := " + repeat("(", 200) + "1" + repeat(")", 200) + "end": {api.ErrLimit, 210},
		"begin x := " + repeat("(", 200) + "$":                            {api.ErrForm, 211},
		"begin x := " + repeat("a[", 200) + "1":                           {api.ErrLimit, 410},
		"begin x := " + repeat("f(", 200) + "1":                           {api.ErrLimit, 410},
		"begin " + repeat("x := (1); ", 300) + "end":                      {api.OK, 0},
		"begin " + repeat("x := a[f(1)]; ", 150) + "end":                  {api.OK, 0},
	} {
		if _, e, at := parse.Parse(text); e != want.e || at != want.at {
			t.Errorf("Parse(%q): error %d at %d, not %d at %d", text, e, at, want.e, want.at)
		}
	}
}

func TestPromise1Faults(t *testing.T) {
	for text, want := range map[string]struct {
		e  api.Errno
		at int
	}{
		"procedure p(x, y); value z; integer x; x":                                           {api.ErrNone, 31},
		"procedure p(x, y); value x, x; integer x;":                                          {api.ErrTwice, 34},
		"procedure p(x, y); value y; integer x; x":                                           {api.ErrKind, 31},
		"procedure p(x, x);":                                                                 {api.ErrTwice, 21},
		"procedure p(x, y, x, y);":                                                           {api.ErrTwice, 24},
		"procedure p(x, x, x); value z;":                                                     {api.ErrTwice, 21},
		"procedure p; value x; integer x;":                                                   {api.ErrNone, 25},
		"procedure p; integer x;":                                                            {api.ErrNone, 27},
		"procedure p(x); label x, y;":                                                        {api.ErrNone, 31},
		"procedure p(x); label x, x;":                                                        {api.ErrTwice, 31},
		"procedure p(x); integer x; integer x;":                                              {api.ErrTwice, 41},
		"procedure p(x); value x; integer x; label x;":                                       {api.ErrTwice, 48},
		"procedure p(x); value x; label x; integer x;":                                       {api.ErrKind, 28},
		"procedure p(x); value x; array x; integer x;":                                       {api.ErrKind, 28},
		"procedure p(x); value x; array x;":                                                  {api.ErrKind, 28},
		"procedure p(x); value x; label x;":                                                  {api.ErrKind, 28},
		"procedure p(x); value x; switch x;":                                                 {api.ErrKind, 28},
		"procedure p(x); value x; string x;":                                                 {api.ErrKind, 28},
		"procedure p(x); value x; procedure x;":                                              {api.ErrKind, 28},
		"procedure p(x); value x; real procedure x;":                                         {api.ErrKind, 28},
		"procedure p(x); value x;":                                                           {api.ErrKind, 28},
		"procedure p(x); value x, z;":                                                        {api.ErrKind, 28},
		"procedure p(x); value z, x;":                                                        {api.ErrNone, 28},
		"procedure p(x, y); value x, y; real x; label y, z;":                                 {api.ErrKind, 34},
		"procedure p(x); value x; procedure x; begin procedure q(y, y);; end":                {api.ErrKind, 28},
		"procedure p(x); value x; real x; begin procedure q(y, y);; end; procedure r(z, z);": {api.ErrTwice, 60},
		"procedure p(x); begin procedure q(y); value x; real y; ; label end":                 {api.ErrForm, 63},
		"procedure p(x, x); value x; integer x; p(1":                                         {api.ErrForm, 0},
	} {
		text = "begin " + text + "; p end"
		if want.at == 0 {
			want.at = strings.LastIndex(text, ";")
		}
		checkError(t, text, want.e, want.at, want.e == api.ErrForm)
		want.at += len("begin ")
		if _, e, at := parse.ParseStmt("begin " + text + " end"); e != want.e || at != want.at {
			t.Errorf("ParseStmt of %q: error %d at %d, not %d at %d", text, e, at, want.e, want.at)
		}
	}
}

// TestPromise1AllFaults compares the errors of headings with what the chapter says, for all of some size.
func TestPromise1AllFaults(t *testing.T) {
	lists := [][]string{{"x"}, {"y"}, {"x", "y"}, {"x", "x"}, {"y", "x", "y"}}
	specifiers := []string{"integer", "array", "real array", "label", "procedure", "boolean procedure"}
	count := 0
	check := func(formals, values []string, specified ...[]string) {
		count++
		checkHeading(t, formals, values, specified)
	}
	for _, formals := range append(lists, nil) {
		for _, values := range append(lists, nil) {
			check(formals, values)
			for _, first := range specifiers {
				for _, list := range lists {
					check(formals, values, append([]string{first}, list...))
					for _, second := range specifiers {
						check(formals, values, append([]string{first}, list...), []string{second, "x"})
					}
				}
			}
		}
	}
	if count < 1000 {
		t.Errorf("only %d headings", count)
	}
}

// checkHeading checks the error of a procedure. Each list of specified begins with the specifier.
func checkHeading(t *testing.T, formals, values []string, specified [][]string) {
	t.Helper()
	text, want, at := "begin procedure p", api.OK, 0
	first := map[string]string{}
	for _, list := range specified {
		for _, name := range list[1:] {
			if first[name] == "" {
				first[name] = list[0]
			}
		}
	}
	write := func(list []string, open, end string, errorOf func(name string, ahead []string) api.Errno) {
		text += open
		for i, name := range list {
			if i > 0 {
				text += ", "
			}
			if e := errorOf(name, list[:i]); e != api.OK && want == api.OK {
				want, at = e, len(text)
			}
			text += name
		}
		text += end
	}
	if formals != nil {
		write(formals, "(", ")", func(name string, ahead []string) api.Errno {
			if slices.Contains(ahead, name) {
				return api.ErrTwice
			}
			return api.OK
		})
	}
	text += ";"
	if values != nil {
		write(values, " value ", ";", func(name string, ahead []string) api.Errno {
			switch {
			case !slices.Contains(formals, name):
				return api.ErrNone
			case slices.Contains(ahead, name):
				return api.ErrTwice
			case first[name] != "integer" && first[name] != "real array":
				return api.ErrKind
			}
			return api.OK
		})
	}
	var seen []string
	for _, list := range specified {
		write(list[1:], " "+list[0]+" ", ";", func(name string, _ []string) api.Errno {
			twice := slices.Contains(seen, name)
			seen = append(seen, name)
			switch {
			case !slices.Contains(formals, name):
				return api.ErrNone
			case twice:
				return api.ErrTwice
			}
			return api.OK
		})
	}
	text += " ; p end"
	if _, e, offset := parse.Parse(text); e != want || offset != at {
		t.Errorf("Parse(%q): error %d at %d, not %d at %d", text, e, offset, want, at)
	}
}

func TestPromise1Limits(t *testing.T) {
	repeat := strings.Repeat
	for text, want := range map[string]api.Errno{
		"begin" + repeat(";", 1998) + "end":                                                                   api.OK,
		" begin" + repeat(";", 1999) + "end":                                                                  api.ErrLimit,
		" " + repeat("begin ", 59) + repeat("end ", 59):                                                       api.OK,
		" " + repeat("begin ", 60) + repeat("end ", 60):                                                       api.ErrLimit,
		" begin x := a" + repeat(" + a", 57) + " end":                                                         api.OK,
		" begin x := a" + repeat(" + a", 58) + " end":                                                         api.ErrLimit,
		" begin x := " + repeat("if a then b else ", 57) + "c end":                                            api.OK,
		" begin x := " + repeat("if a then b else ", 58) + "c end":                                            api.ErrLimit,
		" begin x := " + repeat("if a then b else ", 21000) + "c end":                                         api.ErrLimit,
		" begin x := a" + repeat(" + a", 60000) + " end":                                                      api.ErrLimit,
		" begin x := a" + repeat(" imp a", 60000) + " end":                                                    api.ErrLimit,
		" begin " + repeat("if a then b else ", 25000) + "c end":                                              api.ErrLimit,
		" begin " + repeat("for i := 1 do ", 20000) + "c end":                                                 api.ErrLimit,
		" begin" + repeat(";", 131000) + "end":                                                                api.ErrLimit,
		" " + repeat("l: ", 1998) + "begin end":                                                               api.OK,
		" " + repeat("l: ", 1999) + "begin end":                                                               api.ErrLimit,
		" begin integer a" + repeat(", a", 1996) + "; end":                                                    api.OK,
		" begin integer a" + repeat(", a", 1997) + "; end":                                                    api.ErrLimit,
		" begin procedure p(x, x);; ;" + repeat(";", 2000) + "end":                                            api.ErrTwice,
		" begin" + repeat(";", 2000) + "procedure p(x, x);; end":                                              api.ErrForm,
		" begin procedure p; value x" + repeat(", x", 60000) + "; integer x" + repeat(", x", 2000) + ";; end": api.ErrNone,
	} {
		_, e, at := parse.Parse(text)
		if e != want || e == api.ErrLimit && at != 0 {
			t.Errorf("Parse(%.100q ..): error %d at %d, not %d", text, e, at, want)
		}
		if want == api.OK || want == api.ErrLimit {
			if _, e, at := parse.Tokens(lexed(t, text)); e != want || at != 0 {
				t.Errorf("Tokens(%.100q ..): error %d at %d, not %d", text, e, at, want)
			}
			if e, at := parse.Syntax(lexed(t, text)); e != api.OK || at != 0 {
				t.Errorf("Syntax(%.100q ..): error %d at %d", text, e, at)
			}
		}
	}
	checkStmtError(t, " begin"+repeat(";", 1999)+"end", api.ErrLimit, 0)
	checkStmtError(t, repeat("begin ", 60)+repeat("end ", 60), api.ErrLimit, 0)
	checkStmtError(t, " p("+repeat("- (", 60)+"1"+repeat(")", 61), api.ErrLimit, 0)
	checkExpError(t, " a"+repeat(" + a", 60), api.ErrLimit, 0)
	checkExpError(t, " f(a"+repeat(", a[1, 1, 1, 1]", 400)+")", api.ErrForm, 109)
}

func TestPromise1Format(t *testing.T) {
	for text, want := range map[string]string{
		"begin end":                        "begin end",
		" begin\n x:=((1)) + + 2 end of x": "",
		" begin\n x:=((1)) + 2 end of x":   "begin x := 1 + 2 end",
		"begin comment c; array a[1:2],b[3:4]; own boolean c; p(+ 1, - 1) end": "begin real array a[1: 2]; real array b[3: 4]; own boolean c; p(1, - 1) end",
		"begin procedure p(x,y); value y,x; integer y; label z; ; end":         "",
		"begin procedure p(x,y); value y,x; integer y; real x; ; end":          "begin procedure p(x, y); value x, y; real x; integer y;; end",
	} {
		printed, e, at := parse.Format(text)
		_, wanted, offset := parse.Parse(text)
		if printed != want || e != wanted || at != offset || (want == "") != (e != api.OK) {
			t.Errorf("Format(%q) = %q, %d at %d", text, printed, e, at)
		}
	}
}

// TestPromise1Written compares the trees of texts that are written at random with those that the texts were made for.
func TestPromise1Written(t *testing.T) {
	w := newWriter(4)
	for range 1500 {
		want := w.program(w.from(2, 6))
		text := w.text()
		s, e, at := parse.Parse(text)
		if e != api.OK || at != 0 || !tree.Same(s, want) {
			t.Fatalf("Parse(%q) = %s, %d at %d, not %s", text, showStmt(s), e, at, showStmt(want))
		}
		s, e, at = parse.Tokens(w.tokens)
		if e != api.OK || at != 0 || !tree.Same(s, want) {
			t.Fatalf("Tokens(%q) = %s, %d at %d, not %s", text, showStmt(s), e, at, showStmt(want))
		}
		printed, e, at := parse.Format(text)
		if wanted, _ := tree.Print(want); e != api.OK || at != 0 || printed != wanted {
			t.Fatalf("Format(%q) = %q, %d at %d, not %q", text, printed, e, at, wanted)
		}
	}
	for range 1500 {
		w.clear()
		want := w.stmt(w.from(1, 5))
		text := w.text()
		if s, e, at := parse.ParseStmt(text); tree.Check(want) == api.OK && (e != api.OK || at != 0 || !tree.Same(s, want)) {
			t.Fatalf("ParseStmt(%q) = %s, %d at %d, not %s", text, showStmt(s), e, at, showStmt(want))
		}
		w.clear()
		wanted := w.exp(0, w.from(1, 5))
		text = w.text()
		if x, e, at := parse.ParseExp(text); tree.CheckExp(wanted) == api.OK && (e != api.OK || at != 0 || !tree.SameExp(x, wanted)) {
			t.Fatalf("ParseExp(%q) = %s, %d at %d, not %s", text, showExp(x), e, at, showExp(wanted))
		}
	}
}

// TestPromise1Memory checks that arguments stay as they are, and that results are new.
func TestPromise1Memory(t *testing.T) {
	w := newWriter(5)
	for range 50 {
		w.program(3)
		before := slices.Clone(w.tokens)
		first, _, _ := parse.Tokens(w.tokens)
		second, _, _ := parse.Tokens(w.tokens)
		spoil(&first)
		if third, _, _ := parse.Tokens(w.tokens); !tree.Same(second, third) || !slices.Equal(before, w.tokens) {
			t.Fatal("memory is shared")
		}
	}
	s, _, _ := parse.Parse("begin array a, b[1: 2], c[3: 4], d[5: 6]; procedure p(x, y); value x; real x, y; x; p(1, 2) end")
	want := showStmt(s)
	for _, d := range s.Decls {
		_ = append(append(d.Names, "z")[:0], d.Names...)
		_ = append(d.Exps, api.Exp{})
		_ = append(d.Formals, api.Formal{})
	}
	if showStmt(s) != want {
		t.Errorf("lists share memory: %s", showStmt(s))
	}
}

// spoil changes all lists of a statement.
func spoil(s *api.Stmt) {
	for i := range s.Labels {
		s.Labels[i] = "spoilt"
	}
	for _, exps := range [][]api.Exp{s.Targets, s.Exps} {
		spoilExps(exps)
	}
	for i := range s.For {
		spoilExps(s.For[i].Exps)
		s.For[i] = api.Elem{}
	}
	for i := range s.Decls {
		d := &s.Decls[i]
		clear(d.Names)
		clear(d.Formals)
		spoilExps(d.Exps)
		for j := range d.Body {
			spoil(&d.Body[j])
		}
		*d = api.Decl{}
	}
	for i := range s.Body {
		spoil(&s.Body[i])
		s.Body[i] = api.Stmt{}
	}
}

func spoilExps(exps []api.Exp) {
	for i := range exps {
		spoilExps(exps[i].Args)
		exps[i] = api.Exp{}
	}
}
