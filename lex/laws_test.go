package lex_test

import (
	"math/rand"
	"slices"
	"strings"
	"testing"

	"manorboy/api"
	"manorboy/lex"
	"manorboy/real"
)

// randomToken returns a valid token with any offsets.
func randomToken(source *rand.Rand) api.Token {
	t := api.Token{Kind: 1 + source.Intn(6), At: source.Intn(9), End: source.Intn(9)}
	pick := func(list []string) string { return list[source.Intn(len(list))] }
	switch t.Kind {
	case api.TkWord:
		t.Text = pick([]string{"begin", "end", "else", "if", "true", "eqv", "not", "own"})
	case api.TkName:
		t.Text = pick([]string{"a", "e5", "comments", "abcdefghijklmnop", "ende", "x", "begin1"})
	case api.TkInt:
		t.N = source.Intn(api.MaxInt) >> source.Intn(31)
	case api.TkReal:
		t.Real, _ = real.At(source.Intn(api.MaxIndex + 1))
	case api.TkString:
		t.Text = pick([]string{"", " ", "; comment", "end else", "'~", strings.Repeat("x", 80), "1.5"})
	case api.TkSign:
		t.Text = pick(strings.Fields(listedSigns))
	}
	return t
}

// randomTokens returns tokens that Check accepts.
func randomTokens(source *rand.Rand, most int) []api.Token {
	var l []api.Token
	for range source.Intn(most + 1) {
		t := randomToken(source)
		if len(l) > 0 && l[len(l)-1].Kind == api.TkWord && l[len(l)-1].Text == "end" {
			t = sign(";", 0)
		}
		l = append(l, t)
	}
	return l
}

func TestPromise2Back(t *testing.T) {
	source := rand.New(rand.NewSource(2))
	for range 5000 {
		l := randomTokens(source, 20)
		text, e, at := lex.Print(l)
		if e != api.OK || at != 0 {
			t.Errorf("Print(%v) = %d, %d", l, e, at)
		}
		if got := scan(text); got.e != api.OK || !lex.Same(got.tokens, l) {
			t.Errorf("Lex(%q) = %v, not %v", text, got, l)
		}
	}
	for _, x := range validTokens {
		for _, y := range validTokens {
			if text, e, _ := lex.Print([]api.Token{x, y}); e == api.OK && !lex.Same(tokensOf(t, text), []api.Token{x, y}) {
				t.Errorf("Lex(%q) is not %v, %v", text, x, y)
			}
		}
	}
}

func TestPromise2Texts(t *testing.T) {
	for text, tokens := range accepted(t, 1500) {
		printed, e, _ := lex.Print(tokens)
		if e != api.OK || !lex.Same(tokensOf(t, printed), tokens) {
			t.Errorf("%q is printed as %q", text, printed)
		}
	}
}

func TestPromise3Order(t *testing.T) {
	for text, tokens := range accepted(t, 3000) {
		if e, at := lex.Check(tokens); e != api.OK || at != 0 {
			t.Errorf("Check of %q: %d, %d", text, e, at)
		}
		pieces, _, _ := lex.Comments(text)
		for _, x := range tokens {
			if !lex.Valid(x) {
				t.Errorf("%q has the token %v", text, x)
			}
			pieces = append(pieces, api.Piece{At: x.At, End: x.End})
		}
		slices.SortFunc(pieces, func(a, b api.Piece) int { return a.At - b.At })
		at := 0
		for _, piece := range append(pieces, api.Piece{At: len(text), End: len(text) + 1}) {
			if piece.At < at || piece.At >= piece.End || strings.Trim(text[at:piece.At], "\t\n\r ") != "" {
				t.Errorf("%q: between %d and %v", text, at, piece)
			}
			at = piece.End
		}
	}
}

func TestPromise3TokenOrder(t *testing.T) {
	for text, tokens := range accepted(t, 3000) {
		at := 0
		for _, x := range tokens {
			if x.At < at || x.At >= x.End || x.End > len(text) {
				t.Errorf("%q has the token %v behind %d", text, x, at)
			}
			at = x.End
		}
	}
}

func TestPromise4Alone(t *testing.T) {
	for text, tokens := range accepted(t, 3000) {
		for _, x := range tokens {
			alone := x
			alone.At, alone.End = 0, x.End-x.At
			checkTokens(t, text[x.At:x.End], alone)
		}
	}
}

func TestPromise5Comments(t *testing.T) {
	with := 0
	for text, tokens := range accepted(t, 3000) {
		bare, e, at := lex.Strip(text)
		if e != api.OK || at != 0 || len(bare) > len(text) {
			t.Errorf("Strip(%q) = %q, %d, %d", text, bare, e, at)
		}
		if !lex.Same(tokensOf(t, bare), tokens) {
			t.Errorf("Strip(%q) = %q changes a token", text, bare)
		}
		if pieces, e, _ := lex.Comments(bare); len(pieces) > 0 || e != api.OK {
			t.Errorf("%q has the comments %v", bare, pieces)
		}
		if bare != text {
			with++
		}
	}
	if with < 300 {
		t.Errorf("only %d texts have comments", with)
	}
}

// shifted returns tokens that are so many bytes further behind.
func shifted(l []api.Token, by int) []api.Token {
	l = slices.Clone(l)
	for i := range l {
		l[i].At += by
		l[i].End += by
	}
	return l
}

func TestPromise6Parts(t *testing.T) {
	first, before := "", []api.Token{}
	for text, tokens := range accepted(t, 3000) {
		if len(before) == 0 || before[len(before)-1].Text != "end" {
			checkTokens(t, first+"\n"+text, append(slices.Clone(before), shifted(tokens, len(first)+1)...)...)
		}
		first, before = text, tokens
	}
}

func TestPromise7Errors(t *testing.T) {
	failing := 0
	for text := range samples(20000) {
		got := scan(text)
		if got.e == api.OK {
			continue
		}
		failing++
		if got.at < 0 || got.at >= len(text) || len(got.tokens) > 0 {
			t.Errorf("Lex(%q) = %v", text, got)
			continue
		}
		ahead := scan(text[:got.at])
		if ahead.e != api.OK {
			t.Errorf("Lex(%q) = %v, but ahead of it %v", text, got, ahead)
		}
	}
	if failing < 5000 {
		t.Errorf("only %d texts fail", failing)
	}
}

func TestPromise8Blanks(t *testing.T) {
	for text, tokens := range accepted(t, 1000) {
		for i, x := range tokens {
			for _, blank := range []string{" ", "\n", "\t", "\r"} {
				want := append(slices.Clone(tokens[:i]), shifted(tokens[i:], 1)...)
				checkTokens(t, text[:x.At]+blank+text[x.At:], want...)
			}
		}
	}
}

// common returns how many tokens two lists have in common at the beginning.
func common(a, b []api.Token) int {
	n := min(len(a), len(b))
	for !lex.Same(a[:n], b[:n]) {
		n--
	}
	return n
}

func TestPromise9Differences(t *testing.T) {
	source := rand.New(rand.NewSource(9))
	for range 20000 {
		a, b := make([]api.Token, source.Intn(8)), make([]api.Token, source.Intn(8))
		for _, l := range [][]api.Token{a, b} {
			for i := range l {
				l[i] = api.Token{Kind: api.TkInt, N: source.Intn(2), At: source.Intn(3), End: source.Intn(3)}
			}
		}
		head, tail := lex.Diff(a, b)
		if head < 0 || tail < 0 || head+tail > min(len(a), len(b)) {
			t.Fatalf("Diff(%v, %v) = %d, %d", a, b, head, tail)
		}
		made := slices.Concat(a[:head], b[head:len(b)-tail], a[len(a)-tail:])
		if !lex.Same(made, b) {
			t.Errorf("Diff(%v, %v) = %d, %d: from this %v results", a, b, head, tail, made)
		}
		behind := func(l []api.Token) []api.Token {
			l = slices.Clone(l[head:])
			slices.Reverse(l)
			return l
		}
		if head != common(a, b) || tail != common(behind(a), behind(b)) {
			t.Errorf("Diff(%v, %v) = %d, %d is not as great as possible", a, b, head, tail)
		}
	}
}

func TestPromise10Find(t *testing.T) {
	for text, tokens := range accepted(t, 3000) {
		owner := slices.Repeat([]int{-1}, len(text))
		for i, x := range tokens {
			for at := x.At; at < x.End; at++ {
				owner[at] = i
			}
		}
		for at, want := range owner {
			index, e := lex.Find(tokens, at)
			if want >= 0 && (index != want || e != api.OK) || want < 0 && (index != 0 || e != api.ErrNone) {
				t.Errorf("Find(%d) in %q = %d, %d", at, text, index, e)
			}
		}
	}
}

func TestPromise10Lines(t *testing.T) {
	for text := range samples(3000) {
		line, column := 1, 1
		for at := range len(text) + 1 {
			if l, c, e := lex.Line(text, at); l != line || c != column || e != api.OK {
				t.Errorf("Line(%q, %d) = %d, %d, %d, not %d, %d", text, at, l, c, e, line, column)
			}
			column++
			if at < len(text) && text[at] == '\n' {
				line, column = line+1, 1
			}
		}
	}
}
