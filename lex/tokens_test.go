package lex_test

import (
	"math"
	"slices"
	"strings"
	"testing"

	"manorboy/api"
	"manorboy/lex"
	"manorboy/real"
)

var validTokens = []api.Token{
	word("begin", 0), word("end", 3), word("eqv", 0), word("true", 0), name("a", 0), name("abcdefghijklmnop", 0), name("comments", 0),
	whole(0, 0, 0), whole(7, 3, 1), whole(api.MaxInt, 0, 0), broken(api.Real{}, 0, 0), broken(number("0.1"), 0, 0),
	broken(api.Real{Man: 1, Exp: api.MinExp}, 0, 0), broken(api.Real{Man: 1<<24 - 1, Exp: api.MaxExp}, 0, 0),
	quoted("", 0), quoted(" !#~", 0), quoted(strings.Repeat("x", 80), 0), sign(";", 0), sign("//", 0), sign(":=", 0), sign("]", 0),
	{Kind: api.TkName, Text: "x", At: -5, End: math.MinInt}, {Kind: api.TkInt, At: math.MaxInt, End: -1},
}

var invalidTokens = []api.Token{
	{}, {Kind: -1}, {Kind: 7}, {Kind: 7, Text: "a"}, {Kind: math.MaxInt, Text: ";"},
	word("", 0), word("comment", 0), word("a", 0), word("Begin", 0), word(";", 0),
	name("", 0), name("begin", 0), name("comment", 0), name("1", 0), name("A", 0), name("a b", 0), name("abcdefghijklmnopq", 0),
	whole(-1, 0, 0), whole(api.MaxInt+1, 0, 0), whole(math.MaxInt, 0, 0), whole(math.MinInt, 0, 0),
	broken(api.Real{Man: -1 << 23}, 0, 0), broken(api.Real{Man: -1, Exp: api.MinExp}, 0, 0), broken(api.Real{Man: 5}, 0, 0), broken(api.Real{Exp: 1}, 0, 0),
	quoted("\"", 0), quoted("a\"b", 0), quoted("\n", 0), quoted("\x7f", 0), quoted("\x1f", 0), quoted("é", 0), quoted(strings.Repeat("x", 81), 0),
	sign("", 0), sign("$", 0), sign(".", 0), sign("a", 0), sign("\"", 0), sign(";;", 0), sign("==", 0), sign("///", 0), sign("; ", 0), sign("begin", 0),
}

// swollen returns tokens that have a field too many.
func swollen() []api.Token {
	var list []api.Token
	for _, t := range []api.Token{word("begin", 0), name("a", 0), whole(1, 0, 0), broken(real.FromInt(1), 0, 0), quoted("a", 0), sign(";", 0)} {
		x, y, z := t, t, t
		if t.Kind == api.TkInt || t.Kind == api.TkReal {
			x.Text = "a"
		} else {
			x.N = 1
		}
		if t.Kind != api.TkInt {
			y.N = -3
		} else {
			y.Real = real.FromInt(1)
		}
		if t.Kind != api.TkReal {
			z.Real.Exp = 1
		} else {
			z.Text = "1.0"
		}
		list = append(list, x, y, z)
	}
	return list
}

func TestPromise1Valid(t *testing.T) {
	for _, x := range validTokens {
		if !lex.Valid(x) {
			t.Errorf("%v is valid", x)
		}
	}
	for _, x := range slices.Concat(invalidTokens, swollen()) {
		if lex.Valid(x) {
			t.Errorf("%v is not valid", x)
		}
	}
	for _, s := range strings.Fields(listedWords) {
		if lex.Valid(word(s, 0)) != (s != "comment") || lex.Valid(name(s, 0)) {
			t.Errorf("the word %q", s)
		}
	}
	for _, s := range strings.Fields(listedSigns) {
		if !lex.Valid(sign(s, 0)) {
			t.Errorf("the sign %q", s)
		}
	}
	for c := range 256 {
		s := string([]byte{byte(c)})
		if lex.Valid(quoted(s, 0)) != (c >= 32 && c <= 126 && c != 34) {
			t.Errorf("the string %q", s)
		}
	}
}

func checkCheck(t *testing.T, l []api.Token, e api.Errno, index int) {
	t.Helper()
	if f, i := lex.Check(l); f != e || i != index {
		t.Errorf("Check(%s) = %d, %d", shown(l), f, i)
	}
}

func TestPromise1Check(t *testing.T) {
	end := word("end", 0)
	checkCheck(t, nil, api.OK, 0)
	checkCheck(t, validTokens[:1], api.OK, 0)
	checkCheck(t, []api.Token{end}, api.OK, 0)
	for _, x := range invalidTokens {
		checkCheck(t, []api.Token{x}, api.ErrForm, 0)
		checkCheck(t, []api.Token{name("a", 0), x, x}, api.ErrForm, 1)
		checkCheck(t, []api.Token{end, x}, api.ErrForm, 1)
	}
	for _, x := range validTokens {
		follows := x.Text == "end" && x.Kind == api.TkWord || x.Text == ";" && x.Kind == api.TkSign
		if follows {
			checkCheck(t, []api.Token{end, x, x}, api.OK, 0)
		} else {
			checkCheck(t, []api.Token{end, x}, api.ErrForm, 1)
			checkCheck(t, []api.Token{end, sign(";", 0), x, end, x}, api.ErrForm, 4)
		}
		checkCheck(t, []api.Token{quoted("end", 0), x}, api.OK, 0)
	}
	checkCheck(t, []api.Token{end, word("else", 0), name("x", 0)}, api.OK, 0)
	checkCheck(t, []api.Token{end, quoted(";", 0)}, api.ErrForm, 1)
	checkCheck(t, []api.Token{end, quoted("else", 0)}, api.ErrForm, 1)
	checkCheck(t, []api.Token{end, name("x", 0)}, api.ErrForm, 1)
}

func TestPromise1CheckMany(t *testing.T) {
	full := make([]api.Token, api.MaxTokens+1)
	for i := range full {
		full[i] = sign("+", 0)
	}
	checkCheck(t, full[1:], api.OK, 0)
	checkCheck(t, full, api.ErrLimit, 0)
	full[5] = api.Token{}
	checkCheck(t, full[1:], api.ErrForm, 4)
	checkCheck(t, full, api.ErrLimit, 0)
	if text, e, at := lex.Print(full); text != "" || e != api.ErrLimit || at != 0 {
		t.Errorf("Print of too many tokens: %d bytes, %d, %d", len(text), e, at)
	}
}

func checkPrint(t *testing.T, l []api.Token, text string, e api.Errno, index int) {
	t.Helper()
	if got, f, i := lex.Print(l); got != text || f != e || i != index {
		t.Errorf("Print(%s) = %.500q, %d, %d", shown(l), got, f, i)
	}
}

func TestPromise1Print(t *testing.T) {
	checkPrint(t, nil, "", api.OK, 0)
	checkPrint(t, []api.Token{word("if", 0), whole(7, 0, 0), quoted("a", 0)}, `if 7 "a"`, api.OK, 0)
	checkPrint(t, []api.Token{name("x1", 9), sign(":=", 1), whole(0, 5, 5), sign(";", 0)}, "x1 := 0 ;", api.OK, 0)
	checkPrint(t, []api.Token{broken(api.Real{}, 0, 0), broken(number("0.1"), 0, 0), broken(number("1e10"), 0, 0), broken(number("16777216"), 0, 0)}, "0.0 0.1 1.0e10 16777216.0", api.OK, 0)
	checkPrint(t, []api.Token{quoted("", 0), quoted(" ; ", 0), word("end", 0), word("else", 0)}, `"" " ; " end else`, api.OK, 0)
	checkPrint(t, []api.Token{word("end", 0), name("x", 0)}, "", api.ErrForm, 1)
	checkPrint(t, []api.Token{sign("+", 0), sign("-", 0), word("comment", 0)}, "", api.ErrForm, 2)
	checkPrint(t, []api.Token{whole(-1, 0, 0)}, "", api.ErrForm, 0)
}

func TestPromise1PrintMuch(t *testing.T) {
	// A string of 80 bytes, its quotation marks and a blank are 83 bytes.
	long := slices.Repeat([]api.Token{quoted(strings.Repeat("x", 80), 0)}, api.MaxSource/83)
	rest := api.MaxSource - 83*len(long)
	exact := append(slices.Clone(long), quoted(strings.Repeat("y", rest-2), 0))
	if text, e, at := lex.Print(exact); len(text) != api.MaxSource || e != api.OK || at != 0 {
		t.Errorf("Print: %d bytes, %d, %d", len(text), e, at)
	}
	checkPrint(t, append(slices.Clone(long), quoted(strings.Repeat("y", rest-1), 0)), "", api.ErrLimit, 0)
	checkPrint(t, append(slices.Clone(exact), sign(";", 0)), "", api.ErrLimit, 0)
	checkPrint(t, append(slices.Clone(exact), api.Token{}), "", api.ErrForm, len(exact))
}

func TestPromise1Same(t *testing.T) {
	a := []api.Token{name("x", 0), sign(":=", 1), whole(5, 3, 4), broken(real.FromInt(5), 4, 5)}
	b := []api.Token{name("x", 7), sign(":=", -1), whole(5, 0, 0), broken(real.FromInt(5), 9, 1)}
	if !lex.Same(a, b) || !lex.Same(nil, nil) || !lex.Same(nil, []api.Token{}) || !lex.Same([]api.Token{{}}, []api.Token{{At: 1}}) {
		t.Error("the lists are the same")
	}
	if lex.Same(a, b[:3]) || lex.Same(a[:3], b) || lex.Same(a[1:], b) || lex.Same(nil, b) || lex.Same(a, nil) {
		t.Error("the lists are not equally long")
	}
	for i := range a {
		for _, change := range []func(t *api.Token){
			func(t *api.Token) { t.Kind++ }, func(t *api.Token) { t.Text += "y" }, func(t *api.Token) { t.N-- },
			func(t *api.Token) { t.Real.Man++ }, func(t *api.Token) { t.Real.Exp-- },
		} {
			c := slices.Clone(b)
			change(&c[i])
			if lex.Same(a, c) || lex.Same(c, a) {
				t.Errorf("token %d is another one", i)
			}
		}
	}
}

func tokensOf(t *testing.T, text string) []api.Token {
	t.Helper()
	got := scan(text)
	if got.e != api.OK {
		t.Errorf("Lex(%q): %d at %d", text, got.e, got.at)
	}
	return got.tokens
}

func TestPromise1Diff(t *testing.T) {
	for _, x := range []struct {
		a, b       string
		head, tail int
	}{
		{"", "", 0, 0}, {"", "a", 0, 0}, {"a", "", 0, 0}, {"a", "a", 1, 0}, {"a b", "a b", 2, 0}, {"a", "b", 0, 0},
		{"a b c b", "a b", 2, 0}, {"a b", "a b c b", 2, 0}, {"a b c", "a x y c", 1, 1}, {"a x y c", "a b c", 1, 1},
		{"a a a", "a a", 2, 0}, {"b a a", "a a", 0, 2}, {"a b a", "a c b a", 1, 2}, {"x a", "y a", 0, 1}, {"a x", "a y", 1, 0},
		{"1 + 2", "1 + 2.0", 2, 0}, {"1 2", "3 2", 0, 1}, {"\"a\" b", "a b", 0, 1}, {"a b a b", "a b", 2, 0}, {"a b a", "a", 1, 0},
	} {
		a, b := tokensOf(t, x.a), tokensOf(t, x.b)
		if head, tail := lex.Diff(a, b); head != x.head || tail != x.tail {
			t.Errorf("Diff of %q and %q = %d, %d", x.a, x.b, head, tail)
		}
	}
	// The tokens need not be valid, and offsets do not matter.
	if head, tail := lex.Diff([]api.Token{{}, {N: 1}, {Kind: 9}}, []api.Token{{At: 4}, {Kind: 9, End: 2}}); head != 1 || tail != 1 {
		t.Errorf("Diff of tokens that are not valid = %d, %d", head, tail)
	}
}

func TestPromise1Find(t *testing.T) {
	l := tokensOf(t, "ab  := end x")
	for at, want := range []int{0, 0, -1, -1, 1, 1, -1, 2, 2, 2, -1, -1, -1} {
		index, e := lex.Find(l, at)
		if want < 0 && (index != 0 || e != api.ErrNone) || want >= 0 && (index != want || e != api.OK) {
			t.Errorf("Find(%d) = %d, %d", at, index, e)
		}
	}
	odd := []api.Token{{At: 5, End: 5}, {At: 8, End: 2}, {At: -3, End: 6}, {At: -9, End: 9}, {At: math.MinInt, End: math.MaxInt}}
	for at, want := range map[int]int{5: 2, -3: 2, 6: 3, -4: 3, 9: 4, -10: 4, math.MinInt: 4, math.MaxInt - 1: 4} {
		if index, e := lex.Find(odd, at); index != want || e != api.OK {
			t.Errorf("Find(%d) = %d, %d", at, index, e)
		}
	}
	for _, at := range []int{-1, 12, math.MaxInt, math.MinInt} {
		if index, e := lex.Find(l, at); index != 0 || e != api.ErrNone {
			t.Errorf("Find(%d) = %d, %d", at, index, e)
		}
	}
	if index, e := lex.Find(nil, 0); index != 0 || e != api.ErrNone {
		t.Errorf("Find of nothing = %d, %d", index, e)
	}
}

func TestPromise1Line(t *testing.T) {
	for _, x := range []struct {
		text             string
		at, line, column int
	}{
		{"", 0, 1, 1}, {"ab", 0, 1, 1}, {"ab", 1, 1, 2}, {"ab", 2, 1, 3}, {"a\nb", 1, 1, 2}, {"a\nb", 2, 2, 1}, {"a\nb", 3, 2, 2},
		{"\n\n", 0, 1, 1}, {"\n\n", 1, 2, 1}, {"\n\n", 2, 3, 1}, {"a\r\nb", 2, 1, 3}, {"é\xff\n\x00", 3, 1, 4}, {"é\xff\n\x00", 5, 2, 2},
	} {
		if line, column, e := lex.Line(x.text, x.at); line != x.line || column != x.column || e != api.OK {
			t.Errorf("Line(%q, %d) = %d, %d, %d", x.text, x.at, line, column, e)
		}
	}
	for _, at := range []int{-1, 4, math.MinInt, math.MaxInt} {
		if line, column, e := lex.Line("a\nb", at); line != 0 || column != 0 || e != api.ErrArg {
			t.Errorf("Line(%d) = %d, %d, %d", at, line, column, e)
		}
	}
	// The limits of Lex are not those of Line.
	if line, column, e := lex.Line(strings.Repeat("\n", 2*api.MaxSource)+"$", 2*api.MaxSource+1); line != 2*api.MaxSource+1 || column != 2 || e != api.OK {
		t.Errorf("Line of a long text = %d, %d, %d", line, column, e)
	}
}

// TestPromise1Arguments checks that lists of tokens stay as they are, up to their capacity.
func TestPromise1Arguments(t *testing.T) {
	l := append(slices.Clone(validTokens), validTokens...)
	before := slices.Clone(l)
	lex.Check(l[:5])
	lex.Print(l[:5])
	lex.Same(l[:5], l[2:9])
	lex.Diff(l[:5], l[2:9])
	lex.Find(l[:5], 1)
	if !slices.Equal(l, before) {
		t.Error("an argument has been changed")
	}
}
