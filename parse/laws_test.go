package parse_test

import (
	"fmt"
	"slices"
	"strings"
	"testing"

	"manorboy/api"
	"manorboy/lex"
	"manorboy/parse"
	"manorboy/tree"
)

func TestPromise2Back(t *testing.T) {
	w := newWriter(31)
	for range 1000 {
		s := w.program(w.from(2, 6))
		checkBack(t, s)
		w.clear()
		checkBack(t, w.stmt(w.from(1, 5)))
		w.clear()
		checkBackExp(t, w.exp(0, w.from(1, 5)))
	}
}

// checkBack checks that the text of a statement denotes it, if it is valid.
func checkBack(t *testing.T, s api.Stmt) {
	t.Helper()
	text, e := tree.Print(s)
	if e != api.OK {
		return
	}
	if got, e, at := parse.ParseStmt(text); e != api.OK || at != 0 || !tree.Same(got, s) {
		t.Fatalf("ParseStmt(%q) = %s, %d at %d, not %s", text, showStmt(got), e, at, showStmt(s))
	}
	if tree.Program(s) != api.OK {
		if _, e, _ := parse.Parse(text); e != api.ErrForm {
			t.Fatalf("Parse(%q): error %d", text, e)
		}
		return
	}
	if got, e, at := parse.Parse(text); e != api.OK || at != 0 || !tree.Same(got, s) {
		t.Fatalf("Parse(%q) = %s, %d at %d, not %s", text, showStmt(got), e, at, showStmt(s))
	}
}

func checkBackExp(t *testing.T, x api.Exp) {
	t.Helper()
	text, e := tree.PrintExp(x)
	if e != api.OK {
		return
	}
	if got, e, at := parse.ParseExp(text); e != api.OK || at != 0 || !tree.SameExp(got, x) {
		t.Fatalf("ParseExp(%q) = %s, %d at %d, not %s", text, showExp(got), e, at, showExp(x))
	}
}

// operations are expressions of all kinds, with names as their operands.
func operations() []api.Exp {
	a, b, c := api.Exp{Kind: api.ExName, Text: "a"}, api.Exp{Kind: api.ExName, Text: "b"}, api.Exp{Kind: api.ExName, Text: "c"}
	list := []api.Exp{a, {Kind: api.ExInt, N: api.MaxInt}, {Kind: api.ExReal}, {Kind: api.ExTrue}, {Kind: api.ExFalse}, {Kind: api.ExString, Text: ":="}}
	list = append(list, api.Exp{Kind: api.ExIndex, Text: "a", Args: []api.Exp{b}}, api.Exp{Kind: api.ExCall, Text: "f", Args: []api.Exp{a, b}}, api.Exp{Kind: api.ExIf, Args: []api.Exp{a, b, c}})
	for op := api.OpNeg; op <= api.OpEqv; op++ {
		if op <= api.OpNot {
			list = append(list, api.Exp{Kind: api.ExOne, Op: op, Args: []api.Exp{a}})
		} else {
			list = append(list, api.Exp{Kind: api.ExTwo, Op: op, Args: []api.Exp{a, b}})
		}
	}
	return list
}

// TestPromise2Levels puts each kind of expression into each place of each other one.
func TestPromise2Levels(t *testing.T) {
	for _, outer := range operations() {
		for i := range outer.Args {
			for _, inner := range operations() {
				e := outer
				e.Args = slices.Clone(outer.Args)
				e.Args[i] = inner
				checkBackExp(t, e)
			}
		}
	}
}

// TestPromise2Limits reads the texts of parts that are as large as they can be.
func TestPromise2Limits(t *testing.T) {
	name := strings.Repeat("a", api.MaxName)
	empty := api.Stmt{Kind: api.StEmpty}
	deep := api.Exp{Kind: api.ExName, Text: name}
	for range api.MaxNest - 1 {
		deep = api.Exp{Kind: api.ExOne, Op: api.OpNot, Args: []api.Exp{deep}}
	}
	checkBackExp(t, deep)
	checkBackExp(t, api.Exp{Kind: api.ExIndex, Text: name, Args: slices.Repeat([]api.Exp{{Kind: api.ExCall, Text: name, Args: slices.Repeat([]api.Exp{{Kind: api.ExIndex, Text: "x", Args: []api.Exp{{Kind: api.ExTrue}}}}, api.MaxPars)}}, api.MaxDims)})
	inner := empty
	for range (api.MaxNest - 1) / 2 {
		inner = api.Stmt{Kind: api.StIf, Exps: []api.Exp{{Kind: api.ExTrue}}, Body: []api.Stmt{{Kind: api.StList, Body: []api.Stmt{inner}}, empty}}
	}
	checkBack(t, inner)
	checkBack(t, api.Stmt{Kind: api.StList, Body: slices.Repeat([]api.Stmt{empty}, api.MaxNodes-1)})
	checkBack(t, api.Stmt{Kind: api.StList, Body: slices.Repeat([]api.Stmt{{Kind: api.StEmpty, Labels: []string{name}}}, (api.MaxNodes-1)/2)})
	checkBack(t, api.Stmt{Kind: api.StBlock, Decls: []api.Decl{{Kind: api.DeVar, Type: api.TyReal, Names: slices.Repeat([]string{name}, api.MaxNodes-3)}}, Body: []api.Stmt{empty}})
	var nested api.Stmt
	for nested = empty; tree.Depth(nested) < api.MaxNest-1; {
		nested = api.Stmt{Kind: api.StBlock, Decls: []api.Decl{{Kind: api.DeProc, Names: []string{"p"}, Body: []api.Stmt{nested}}}, Body: []api.Stmt{empty}}
	}
	checkBack(t, nested)
}

func TestPromise3Format(t *testing.T) {
	w := newWriter(32)
	for range 500 {
		s := w.program(w.from(2, 6))
		text := w.text()
		printed, e, at := parse.Format(text)
		if e != api.OK || at != 0 {
			t.Fatalf("Format(%q): error %d at %d", text, e, at)
		}
		if got, e, _ := parse.Parse(printed); e != api.OK || !tree.Same(got, s) {
			t.Fatalf("Format(%q) = %q, which is another program", text, printed)
		}
		if again, e, at := parse.Format(printed); again != printed || e != api.OK || at != 0 {
			t.Fatalf("Format(%q) = %q, %d at %d", printed, again, e, at)
		}
	}
}

// isTargetAt reports whether the part with a path is a target of a statement.
func isTargetAt(s api.Stmt, path []int) bool {
	if len(path) == 0 {
		return false
	}
	outer, _ := tree.At(s, path[:len(path)-1])
	return outer.Kind == api.PaStmt && path[len(path)-1] < len(outer.Stmt.Targets)
}

func TestPromise4Parentheses(t *testing.T) {
	w := newWriter(33)
	for range 150 {
		s := w.program(w.from(2, 5))
		text := w.text()
		paths, _ := tree.Paths(s)
		for number, piece := range placesOf(t, text) {
			part, _ := tree.At(s, paths[number])
			inside := text[piece.At:piece.End]
			enclosed := text[:piece.At] + "(" + inside + " )" + text[piece.End:]
			switch {
			case part.Kind != api.PaExp:
				continue
			case isTargetAt(s, paths[number]):
				if _, e, _ := parse.Parse(enclosed); e != api.ErrForm {
					t.Fatalf("Parse(%q): error %d", enclosed, e)
				}
				continue
			}
			if got, e, at := parse.Parse(enclosed); e != api.OK || at != 0 || !tree.Same(got, s) {
				t.Fatalf("Parse(%q) = %s, %d at %d, not %s", enclosed, showStmt(got), e, at, showStmt(s))
			}
			if got, e, at := parse.ParseExp("(" + inside + ")"); e != api.OK || at != 0 || !tree.SameExp(got, part.Exp) {
				t.Fatalf("ParseExp of (%q) = %s, %d at %d, not %s", inside, showExp(got), e, at, showExp(part.Exp))
			}
		}
	}
}

func TestPromise4Comments(t *testing.T) {
	w := newWriter(34)
	for range 300 {
		s := w.program(w.from(2, 5))
		bare, e, _ := lex.Strip(w.text())
		if e != api.OK {
			t.Fatalf("Strip: error %d", e)
		}
		if got, e, at := parse.Parse(bare); e != api.OK || at != 0 || !tree.Same(got, s) {
			t.Fatalf("Parse(%q) = %s, %d at %d, not %s", bare, showStmt(got), e, at, showStmt(s))
		}
	}
}

// TestPromise7Levels reads all operators in a row.
func TestPromise7Levels(t *testing.T) {
	for first := api.OpAdd; first <= api.OpEqv; first++ {
		for second := api.OpAdd; second <= api.OpEqv; second++ {
			x, y := shapes[first], shapes[second]
			text := "a " + x.text + " b " + y.text + " c"
			switch {
			case x.level == 6 && y.level == 6:
				checkExpError(t, text, api.ErrForm, len("a "+x.text+" b "))
			case x.level >= y.level:
				checkExp(t, text, fmt.Sprintf("(%s (%s a b) c)", y.text, x.text))
			default:
				checkExp(t, text, fmt.Sprintf("(%s a (%s b c))", x.text, y.text))
			}
		}
	}
}

// TestPromise7Front reads the operators in front of all others.
func TestPromise7Front(t *testing.T) {
	for op := api.OpAdd; op <= api.OpEqv; op++ {
		x := shapes[op]
		minus, plus, not := fmt.Sprintf("(%s (neg a) b)", x.text), fmt.Sprintf("(%s a b)", x.text), fmt.Sprintf("(%s (not a) b)", x.text)
		if x.level > 7 {
			minus = fmt.Sprintf("(neg (%s a b))", x.text)
		}
		if x.level > 5 {
			not = fmt.Sprintf("(not (%s a b))", x.text)
		}
		checkExp(t, "- a "+x.text+" b", minus)
		checkExp(t, "+ a "+x.text+" b", plus)
		checkExp(t, "not a "+x.text+" b", not)
		for _, front := range []struct {
			text, want string
			level      int
		}{{"-", "(neg b)", 7}, {"+", "b", 7}, {"not", "(not b)", 5}} {
			text := "a " + x.text + " " + front.text + " b"
			if x.level < front.level {
				checkExp(t, text, fmt.Sprintf("(%s a %s)", x.text, front.want))
			} else {
				checkExpError(t, text, api.ErrForm, len("a "+x.text+" "))
			}
		}
	}
	checkExp(t, "- a * b ^ c + d", "(+ (neg (* a (^ b c))) d)")
	checkExp(t, "- a - b", "(- (neg a) b)")
}

// written writes something, and returns its text.
func written[T any](w *writer, write func() T) (T, string) {
	w.clear()
	x := write()
	return x, w.text()
}

func TestPromise8Composition(t *testing.T) {
	w := newWriter(35)
	for range 300 {
		first, a := written(w, func() api.Stmt { return w.stmt(3) })
		second, b := written(w, func() api.Stmt { return w.stmt(3) })
		value, x := written(w, func() api.Exp { return w.exp(0, 3) })
		to, v := written(w, func() api.Exp { return w.target(2) })
		isClosed := first.Kind != api.StIf && first.Kind != api.StFor
		for text, want := range map[string]api.Stmt{
			"begin " + a + "; " + b + " end":                  {Kind: api.StList, Body: []api.Stmt{first, second}},
			"begin integer i; " + a + "; " + b + " end":       {Kind: api.StBlock, Decls: []api.Decl{{Kind: api.DeVar, Type: api.TyInt, Names: []string{"i"}}}, Body: []api.Stmt{first, second}},
			"begin procedure p;" + a + "; " + b + " end":      {Kind: api.StBlock, Decls: []api.Decl{{Kind: api.DeProc, Names: []string{"p"}, Body: []api.Stmt{first}}}, Body: []api.Stmt{second}},
			"for " + v + " := " + x + " do " + a:              {Kind: api.StFor, Targets: []api.Exp{to}, For: []api.Elem{{Kind: api.FeOnce, Exps: []api.Exp{value}}}, Body: []api.Stmt{first}},
			"if " + x + " then " + a:                          {Kind: api.StIf, Exps: []api.Exp{value}, Body: []api.Stmt{first}},
			"if " + x + " then " + a + " else " + b:           {Kind: api.StIf, Exps: []api.Exp{value}, Body: []api.Stmt{first, second}},
			"if " + x + " then begin " + a + " end else " + b: {Kind: api.StIf, Exps: []api.Exp{value}, Body: []api.Stmt{{Kind: api.StList, Body: []api.Stmt{first}}, second}},
			v + " := " + x:                     {Kind: api.StAssign, Targets: []api.Exp{to}, Exps: []api.Exp{value}},
			v + " := " + v + " := (" + x + ")": {Kind: api.StAssign, Targets: []api.Exp{to, to}, Exps: []api.Exp{value}},
			"goto " + x:                        {Kind: api.StGoto, Exps: []api.Exp{value}},
			"p(" + x + "," + x + ")":           {Kind: api.StCall, Text: "p", Exps: []api.Exp{value, value}},
		} {
			if tree.Check(want) == api.ErrLimit {
				continue
			}
			got, e, at := parse.ParseStmt(text)
			if !isClosed && want.Kind == api.StIf && want.Body[0].Kind == first.Kind {
				if e != api.ErrForm {
					t.Fatalf("ParseStmt(%q): error %d at %d", text, e, at)
				}
				continue
			}
			if e != api.OK || at != 0 || !tree.Same(got, want) {
				t.Fatalf("ParseStmt(%q) = %s, %d at %d, not %s", text, showStmt(got), e, at, showStmt(want))
			}
		}
	}
}

// TestPromise8Else checks to which if an else belongs.
func TestPromise8Else(t *testing.T) {
	checkStmt(t, "if a then b else if c then d", "(if a (call b) (if c (call d)))")
	checkStmt(t, "if a then b else if c then d else e", "(if a (call b) (if c (call d) (call e)))")
	checkStmt(t, "for i := 1 do if a then b else c", "(for (i) (once 1) (if a (call b) (call c)))")
	checkStmt(t, "if a then begin end else for i := 1 do if b then c else d", "(if a (list (empty)) (for (i) (once 1) (if b (call c) (call d))))")
	checkStmt(t, "if if a then b else c then else", "(if (if a b c) (empty) (empty))")
	checkStmtError(t, "if a then b else if c then d else e else f", api.ErrForm, 36)
}

func TestPromise9Nesting(t *testing.T) {
	for n := range 204 {
		for _, inside := range []string{"1", "a", "\"(\"", "1.5"} {
			text := strings.Repeat("( ", n) + inside + strings.Repeat(" )", n)
			want, e, _ := parse.ParseExp(inside)
			if e != api.OK {
				t.Fatal(inside)
			}
			if n > 200 {
				checkExpError(t, text, api.ErrLimit, 400)
				checkError(t, "begin goto "+text+" end", api.ErrLimit, 409, true)
				continue
			}
			if got, e, at := parse.ParseExp(text); e != api.OK || at != 0 || !tree.SameExp(got, want) {
				t.Fatalf("ParseExp(%q) = %s, %d at %d", text, showExp(got), e, at)
			}
		}
	}
	// A pair that is closed does not count, and the same holds for brackets.
	checkExp(t, strings.Repeat("((a)", 1)+strings.Repeat(" + (a)", 3)+")", "(+ (+ (+ a a) a) a)")
	checkExpError(t, strings.Repeat("(", 200)+"a[1]", api.ErrLimit, 201)
	checkExpError(t, strings.Repeat("(", 199)+"a[f(1)]", api.ErrLimit, 202)
	checkStmtError(t, strings.Repeat("begin ", 201), api.ErrLimit, 1200)
	checkStmtError(t, strings.Repeat("begin ", 200), api.ErrForm, 1200)
}

// TestPromise11Formals reads all pairs of formal parameters that are specified in some order.
func TestPromise11Formals(t *testing.T) {
	for _, x := range validFormals("x") {
		for _, y := range validFormals("y") {
			var values []string
			var specifiers [2]string
			for i, f := range []api.Formal{x, y} {
				if f.Value {
					values = append(values, f.Name)
				}
				if f.Spec != api.SpNone {
					specifiers[i] = strings.Join(append(specifierWords(f), f.Name), " ") + "; "
				}
			}
			value := ""
			if len(values) > 0 {
				slices.Reverse(values)
				value = "value " + strings.Join(values, ", ") + "; "
			}
			for _, specified := range []string{specifiers[0] + specifiers[1], specifiers[1] + specifiers[0]} {
				text := "begin procedure p(x, y); " + value + specified + "; p end"
				s, e, at := parse.Parse(text)
				if e != api.OK || at != 0 || !slices.Equal(s.Decls[0].Formals, []api.Formal{x, y}) {
					t.Fatalf("Parse(%q) = %s, %d at %d", text, showStmt(s), e, at)
				}
			}
		}
	}
}

// TestPromise11Written reads headings that are written at random, in any order.
func TestPromise11Written(t *testing.T) {
	w := newWriter(36)
	for range 500 {
		formals, heading := written(w, w.heading)
		text := "begin procedure p" + heading + "; p end"
		s, e, at := parse.Parse(text)
		if e != api.OK || at != 0 || !slices.Equal(s.Decls[0].Formals, formals) {
			t.Fatalf("Parse(%q) = %s, %d at %d, not %v", text, showStmt(s), e, at, formals)
		}
	}
}
