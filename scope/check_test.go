package scope_test

import (
	"fmt"
	"strings"
	"testing"

	"manorboy/api"
	"manorboy/scope"
	"manorboy/tree"
)

func checkProblems(t *testing.T, text, want string) {
	t.Helper()
	if got := showProblems(problems(t, statement(t, text))); got != want {
		t.Errorf("%s: problems %s, not %s", text, got, want)
	}
}

// positions are texts of statements with a place for an expression: as a value, a target, a goal, an actual parameter, and a choice.
var positions = [5]string{"v := #", "# := 1", "goto #", "outinteger(#)", "outinteger(if true then # else 1)"}

// judgement says which occurrences of d are right (.), and which are problems PrKind (K) or PrCount (C): for each form, in the five positions; and as a statement with none, one and two parameters.
type judgement struct {
	declaration                       string
	name, one, two, call, calls, stmt string
}

// inBlock are declarations of d in the block of the occurrence.
var inBlock = []judgement{
	{"integer d", "..K..", "KKKKK", "KKKKK", "K-KKK", "K-KKK", "KKK"},
	{"own boolean d", "..K..", "KKKKK", "KKKKK", "K-KKK", "K-KKK", "KKK"},
	{"real array d[1: 2]", "KKK.K", "..K..", "CCKCC", "K-KKK", "K-KKK", "KKK"},
	{"integer array d[1: 2, 3: 4]", "KKK.K", "CCKCC", "..K..", "K-KKK", "K-KKK", "KKK"},
	{"own integer array e, d[1: 2, 3: 4, 5: 6]", "KKK.K", "CCKCC", "CCKCC", "K-KKK", "K-KKK", "KKK"},
	{"switch d := l, l", "KKK.K", "KK...", "KKCCC", "K-KKK", "K-KKK", "KKK"},
	{"procedure d; ", "KKK.K", "KKKKK", "KKKKK", "K-KKK", "K-KKK", ".CC"},
	{"procedure d(x); ", "KKK.K", "KKKKK", "KKKKK", "K-KKK", "K-KKK", "C.C"},
	{"procedure d(x, y); value x; real x; ", "KKK.K", "KKKKK", "KKKKK", "K-KKK", "K-KKK", "CC."},
	{"integer procedure d; ", ".KK..", "KKKKK", "KKKKK", "C-KCC", "C-KCC", ".CC"},
	{"boolean procedure d(x); ", "CKK.C", "KKKKK", "KKKKK", ".-K..", "C-KCC", "C.C"},
	{"real procedure d(x, y); ", "CKK.C", "KKKKK", "KKKKK", "C-KCC", ".-K..", "CC."},
	{"real procedure d(x, y, z); ", "CKK.C", "KKKKK", "KKKKK", "C-KCC", "C-KCC", "CCC"},
	{"integer e; procedure f(d); ", "UUUUU", "UUUUU", "UUUUU", "U-UUU", "U-UUU", "UUU"},
}

// inProcedure are headings of a procedure around the occurrence.
var inProcedure = []judgement{
	{"procedure p(d); #", ".....", ".....", ".....", ".-K..", ".-K..", "..."},
	{"procedure p(d); integer d; #", ".....", ".....", ".....", ".-K..", ".-K..", "..."},
	{"procedure p(d); real array d; #", ".....", ".....", ".....", ".-K..", ".-K..", "..."},
	{"procedure p(d); label d; #", ".....", ".....", ".....", ".-K..", ".-K..", "..."},
	{"procedure p(d); switch d; #", ".....", ".....", ".....", ".-K..", ".-K..", "..."},
	{"procedure p(d); string d; #", ".....", ".....", ".....", ".-K..", ".-K..", "..."},
	{"procedure p(d); procedure d; #", ".....", ".....", ".....", ".-K..", ".-K..", "..."},
	{"procedure p(d); value d; integer d; #", "..K..", "KKKKK", "KKKKK", "K-KKK", "K-KKK", "KKK"},
	{"procedure p(e, d); value d; real array d; #", "KKK.K", "..K..", "..K..", "K-KKK", "K-KKK", "KKK"},
	// A function in its own body, and in that of a procedure within it.
	{"procedure d; #", "KKK.K", "KKKKK", "KKKKK", "K-KKK", "K-KKK", ".CC"},
	{"integer procedure d; #", "..K..", "KKKKK", "KKKKK", "C-KCC", "C-KCC", ".CC"},
	{"integer procedure d(x); #", "C.K.C", "KKKKK", "KKKKK", ".-K..", "C-KCC", "C.C"},
	{"integer procedure d(x, y); begin procedure e; begin real f; # end; end", "C.K.C", "KKKKK", "KKKKK", "C-KCC", ".-K..", "CC."},
	{"integer procedure d; ; real procedure f; #", ".KK..", "KKKKK", "KKKKK", "C-KCC", "C-KCC", ".CC"},
	{"real procedure f; #; integer procedure d; ", ".KK..", "KKKKK", "KKKKK", "C-KCC", "C-KCC", ".CC"},
}

// asStandard are the standard procedures in the place of d.
var asStandard = []judgement{
	{"outinteger", "KKK.K", "KKKKK", "KKKKK", "K-KKK", "K-KKK", "C.C"},
	{"outreal", "KKK.K", "KKKKK", "KKKKK", "K-KKK", "K-KKK", "C.C"},
	{"outboolean", "KKK.K", "KKKKK", "KKKKK", "K-KKK", "K-KKK", "C.C"},
	{"outstring", "KKK.K", "KKKKK", "KKKKK", "K-KKK", "K-KKK", "C.C"},
	{"inint", ".KK..", "KKKKK", "KKKKK", "C-KCC", "C-KCC", ".CC"},
	{"abs", "CKK.C", "KKKKK", "KKKKK", ".-K..", "C-KCC", "C.C"},
	{"sign", "CKK.C", "KKKKK", "KKKKK", ".-K..", "C-KCC", "C.C"},
	{"entier", "CKK.C", "KKKKK", "KKKKK", ".-K..", "C-KCC", "C.C"},
}

// checkJudgement checks the occurrences of an identifier in a text with a place for statements.
func checkJudgement(t *testing.T, text, d string, j judgement) {
	t.Helper()
	check := func(occurrence, position string, want byte) {
		t.Helper()
		whole := strings.Replace(text, "#", strings.Replace(position, "#", occurrence, 1), 1)
		if got := problemOf(t, whole, d); got != want {
			t.Errorf("%s: %c, not %c", whole, got, want)
		}
	}
	forms := map[string]string{"": j.name, "[1]": j.one, "[1, 2]": j.two, "(1)": j.call, "(1, 2)": j.calls}
	for form, want := range forms {
		for i, position := range positions {
			if want[i] != '-' {
				check(d+form, position, want[i])
			}
		}
	}
	for i, form := range []string{"", "(1)", "(1, 2)"} {
		check(d+form, "#", j.stmt[i])
	}
}

// problemOf returns the letter of the one problem of an identifier, that of its kind; a full stop if there is none.
func problemOf(t *testing.T, text, name string) byte {
	t.Helper()
	letter := byte('.')
	for _, p := range problems(t, statement(t, text)) {
		if p.Name != name || letter != '.' {
			t.Errorf("%s: problem %v", text, p)
		}
		letter = "-TUBKC"[p.Kind]
	}
	return letter
}

func TestPromise7Table(t *testing.T) {
	for _, j := range inBlock {
		checkJudgement(t, "begin integer v; l: begin "+j.declaration+"; # end end", "d", j)
	}
	for _, j := range inProcedure {
		checkJudgement(t, "begin integer v; "+j.declaration+"; end", "d", j)
	}
	for _, j := range asStandard {
		// The names of the other positions are not to be hidden.
		checkJudgement(t, "begin integer v; # end", j.declaration, j)
	}
	labels := judgement{"", "KK...", "KKKKK", "KKKKK", "K-KKK", "K-KKK", "KKK"}
	checkJudgement(t, "begin integer v; d: # end", "d", labels)
	checkJudgement(t, "begin integer v; #; e: d: end", "d", labels)
}

// TestPromise7Positions checks the positions in which expressions can stand, by expressions that are right in a few of them.
func TestPromise7Positions(t *testing.T) {
	for _, x := range []struct{ text, positions string }{
		// The letters are the positions of the places: value, target, goal, actual, choice.
		{"v := #", "v"},
		{"if # then ", "v"},
		{"for v := #, # while #, # step # until # do ", "vvvvvv"},
		{"goto #", "g"},
		{"outinteger(#)", "a"},
		{"q(#, #, #)", "aaa"},
		{"v := abs(#)", "a"},
		{"v := r(#, #)", "aa"},
		{"v := - #", "v"},
		{"v := not #", "v"},
		{"v := # + #", "vv"},
		{"goto s[#]", "v"},
		{"goto s[# + #]", "vv"},
		{"v := b[#, #]", "vv"},
		{"b[#, #] := #", "vvv"},
		{"for b[#, #] := # do ", "vvv"},
		{"outinteger(b[#, #])", "vv"},
		{"outinteger(- #)", "v"},
		{"v := if # then # else #", "vvv"},
		{"v := - (if # then # else #)", "vvv"},
		{"goto if # then # else #", "vgg"},
		{"goto if # then # else if # then # else #", "vgvgg"},
		{"goto if # then (if # then # else #) else #", "vvggg"},
		{"outinteger(if # then # else #)", "vcc"},
		{"v := abs(if # then # else #)", "vcc"},
		{"outinteger(if # then # else if # then # else #)", "vcvcc"},
		{"outinteger(if # then (if # then # else #) else #)", "vvccc"},
		{"outinteger(if (if # then # else #) then # else abs(#))", "vvvca"},
		{"outinteger(if # then - # else abs(if # then # else #))", "vvvcc"},
		{"outinteger(if # then b[if # then # else #, #] else #)", "vvvvvc"},
		{"begin array a[#: #, # + #: if # then # else #]; end", "vvvvvvv"},
		{"begin switch s := #, if # then # else #; end", "gvgg"},
	} {
		if strings.Count(x.text, "#") != len(x.positions) {
			t.Fatalf("%s has not %d places", x.text, len(x.positions))
		}
		for i, position := range x.positions {
			for _, e := range []struct{ text, right string }{
				{"1", "vac"}, {"1.5", "vac"}, {"true", "vac"}, {"false", "vac"}, {"(- v)", "vac"}, {"(v * v)", "vac"},
				{"\"\"", "a"}, {"v", "vac"}, {"l", "gac"}, {"s", "a"}, {"b", "a"}, {"q", "a"}, {"r(1, 2)", "vac"}, {"s[1]", "gac"}, {"b[1, 2]", "vac"}, {"(if true then f else f)", "vgac"}, {"f", "vgac"},
			} {
				checkPlaceOf(t, x.text, i, e.text, strings.ContainsRune(e.right, position))
			}
		}
	}
}

// checkPlaceOf puts an expression in one of the places of a statement, and a formal parameter in the other ones, and checks whether there is a problem.
func checkPlaceOf(t *testing.T, text string, place int, e string, isRight bool) {
	t.Helper()
	pieces := strings.Split(text, "#")
	for i := range pieces[1:] {
		if i == place {
			pieces[i] += e
		} else {
			pieces[i] += "f"
		}
	}
	whole := strings.Join(pieces, "")
	list := problems(t, statement(t, "begin integer v; array b[1: 2, 3: 4]; switch s := l; real procedure r(x, y); ; procedure q(x, y, z); ; procedure p(f); begin integer w; "+whole+" end; l: end"))
	if isRight && len(list) > 0 || !isRight && (len(list) != 1 || list[0].Kind != api.PrKind) {
		t.Errorf("%s: problems %s", whole, showProblems(list))
	}
}

func TestPromise7Expressions(t *testing.T) {
	checkProblems(t, "goto 1", "1:Kind:")
	checkProblems(t, "goto - 1.5", "1:Kind:")
	checkProblems(t, "goto if 1 then true else false", "3:Kind: 4:Kind:")
	checkProblems(t, "goto 1 + \"a\"", "1:Kind: 3:Kind:")
	checkProblems(t, "begin switch s := 1, s[1], not true; goto s[\"a\"] end", "2:Kind: 5:Kind: 9:Kind:")
	checkProblems(t, "begin integer v; v := \"a\"; v := - \"b\"; v := if \"c\" then \"d\" else 1 end", "4:Kind: 8:Kind: 12:Kind: 13:Kind:")
	checkProblems(t, "begin outstring(\"a\"); outstring(if true then \"b\" else \"c\"); outstring((\"d\")) end", "6:Kind: 7:Kind:")
	checkProblems(t, "begin integer v; for v := \"a\" step \"b\" until \"c\" do end", "5:Kind: 6:Kind: 7:Kind:")
	checkProblems(t, "begin array a[\"a\": 1]; if \"b\" then end", "2:Kind: 5:Kind:")
}

func TestPromise7Twice(t *testing.T) {
	for _, x := range []struct{ text, want string }{
		{"begin integer x, x; end", "1:Twice:x"},
		{"begin integer x, y, x, y, x; end", "1:Twice:x 1:Twice:y 1:Twice:x"},
		{"begin integer x; boolean x; array x[1: 2]; switch x := x[1]; procedure x(x); ; x: x: end", "2:Twice:x 3:Twice:x 6:Twice:x 7:Kind:x 9:Twice:x 11:Twice:x 11:Twice:x"},
		{"begin integer z; b: a: b: ; a: c: b: begin b: a: end end", "2:Twice:b 3:Twice:a 3:Twice:b"},
		{"begin b: a: b: ; a: c: b: begin b: a: end end", "1:Twice:b 2:Twice:a 2:Twice:b"},
		{"a: b: a: ", "0:Twice:a"},
		{"a: a: a: ", "0:Twice:a 0:Twice:a"},
		{"if true then a: a: else a: ", "2:Twice:a"},
		{"begin procedure p(a); a: a: ; end", "2:Twice:a"},
		// Nothing is twice in scopes that are not the same.
		{"begin integer x; procedure p(x); x: begin integer x; x: end; end", "5:Twice:x"},
		{"a: begin a: begin a: end end", ""},
		{"begin integer abs, outreal; inint: end", ""},
		// A statement's labels come ahead of what else is wrong with it.
		{"z: y: z: q", "0:Twice:z 0:Unknown:q"},
		{"z: y: y: z: y", "0:Twice:y 0:Twice:z 0:Kind:y"},
		{"begin q; z: z: q(y) end", "1:Unknown:q 2:Twice:z 2:Unknown:q 3:Unknown:y"},
	} {
		checkProblems(t, x.text, x.want)
	}
}

func TestPromise7UnknownAndBound(t *testing.T) {
	for _, x := range []struct{ text, want string }{
		{example, "4:Bound:n 13:Unknown:l 16:Unknown:q"},
		{"x := y[z] + f(w, u)", "1:Unknown:x 3:Unknown:y 4:Unknown:z 5:Unknown:f 6:Unknown:w 7:Unknown:u"},
		{"p(\"a\")", "0:Unknown:p"},
		{"begin array a[n: abs(n), 1: 2]; end", "2:Unknown:n 4:Unknown:n"},
		// Each declaration of the block counts, and each occurrence in a bound, also one that is known or would be of the wrong kind.
		{"begin integer n, m; begin array a[n: m]; real n; m: end end", "4:Bound:n 5:Bound:m"},
		{"begin array a[a[1]: f(a, l(s[1]), f)]; switch s := l; procedure f; ; l: end", "2:Bound:a 4:Bound:f 5:Bound:a 6:Bound:l 7:Bound:s 9:Bound:f"},
		{"begin integer abs; array a[abs(1): sign(2)]; end", "3:Bound:abs"},
		{"begin integer n; begin array a[n: 1]; procedure p(n); ; begin integer n; n: end end end", "10:Twice:n"},
		// The bounds of an inner block's arrays are no bounds of the outer one's.
		{"begin integer n; begin array a[n: n]; end end", ""},
		{"begin array a[1: 2]; procedure p; begin array b[a[1]: 2]; end; end", ""},
		{"l: begin array a[l: 1]; end", "2:Kind:l"},
		{"l: begin array a[l: 1]; l: end", "2:Bound:l"},
		// All arrays of a block, and all bounds.
		{"begin array a[1: 2, b: a], b[1: 2]; array c[1: 1, 1: 1, 1: 1, 1: - c[n]]; integer n; end", "4:Bound:b 5:Bound:a 18:Bound:c 19:Bound:n"},
		// A switch has no bounds.
		{"begin switch s := s[n], l; integer n; l: end", ""},
	} {
		checkProblems(t, x.text, x.want)
	}
}

// TestPromise7Whole checks programs of several kinds of problems, and ones without any.
func TestPromise7Whole(t *testing.T) {
	for _, x := range []struct{ text, want string }{
		{"begin end", ""},
		{"begin integer i; for i := 1 step 1 until 3 do outinteger(i * i) end", ""},
		{"begin real procedure sum(i, n, t); value n; integer n; begin real s; for i := 1 step 1 until n do s := s + t; sum := s end; integer j; outreal(sum(j, 4, j * j)) end", ""},
		{"begin real procedure a(k, x1, x2, x3, x4, x5); value k; integer k; begin real procedure b; begin k := k - 1; b := a := a(k, b, x1, x2, x3, x4) end; if k <= 0 then a := x4 + x5 else b end; outreal(a(10, 1, - 1, - 1, 1, 0)) end", ""},
		{"begin procedure a(f); f; procedure b; begin procedure c; outinteger(1); a(c) end; b end", ""},
		{"begin integer array a[1: 2]; a := a[1, 2]; a; b: goto a; goto b; inint := inint; abs; abs(abs) end", "5:Kind:a 6:Count:a 9:Kind:a 11:Kind:a 15:Kind:inint 17:Count:abs"},
	} {
		checkProblems(t, x.text, x.want)
	}
}

// TestPromise7Dimensions tries all numbers of dimensions, subscripts, formal and actual parameters.
func TestPromise7Dimensions(t *testing.T) {
	ones := func(n int, one string) string { return strings.Join(strings.Split(strings.Repeat(one, n), ""), ", ") }
	want := func(isSame bool) byte {
		if isSame {
			return '.'
		}
		return 'C'
	}
	for n := 1; n <= api.MaxDims; n++ {
		bounds := strings.ReplaceAll(ones(n, "1"), "1", "1: 2")
		for k := 1; k <= api.MaxDims; k++ {
			text := fmt.Sprintf("begin array d[%s]; d[%s] := 1 end", bounds, ones(k, "1"))
			if got := problemOf(t, text, "d"); got != want(n == k) {
				t.Errorf("%s: %c", text, got)
			}
		}
	}
	for n := 0; n <= api.MaxPars; n++ {
		formals := strings.TrimSuffix("("+ones(n, "x")+")", "()")
		for i := range n {
			formals = strings.Replace(formals, "x", fmt.Sprint("y", i), 1)
		}
		for k := 0; k <= api.MaxPars; k++ {
			actuals := strings.TrimSuffix("("+ones(k, "1")+")", "()")
			for _, text := range []string{"begin procedure d#; ; d@ end", "begin real procedure d#; ; d@ end", "begin real procedure d#; ; real v; v := d@ end"} {
				whole := strings.Replace(strings.Replace(text, "#", formals, 1), "@", actuals, 1)
				if got := problemOf(t, whole, "d"); got != want(n == k) {
					t.Errorf("%s: %c", whole, got)
				}
			}
		}
	}
}

// TestPromise7Sorted checks that problems are sorted, and that none is there without a name but for expressions.
func TestPromise7Sorted(t *testing.T) {
	for _, s := range statements(3, 200) {
		list, e := scope.Check(s)
		wantOK(t, e)
		paths, _ := tree.Paths(s)
		for i, p := range list {
			part, _ := tree.At(s, paths[p.Node])
			if p.Name == "" && (p.Kind != api.PrKind || part.Kind != api.PaExp) {
				t.Errorf("problem %v of %v", p, part)
			}
			if i > 0 && (list[i-1].Node > p.Node || list[i-1].Node == p.Node && p.Kind == api.PrTwice && list[i-1].Kind != api.PrTwice) {
				t.Errorf("problem %v behind %v", p, list[i-1])
			}
		}
	}
}
