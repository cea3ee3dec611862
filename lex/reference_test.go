package lex_test

import (
	"iter"
	"math/rand"
	"regexp"
	"slices"
	"strings"
	"testing"

	"manorboy/api"
	"manorboy/integer"
	"manorboy/lex"
	"manorboy/real"
)

// What the rules say about the beginning of a text, as patterns.
var (
	blankPattern   = regexp.MustCompile(`^[\t\n\r ]*`)
	runPattern     = regexp.MustCompile(`[a-z0-9]+`)
	wordPattern    = regexp.MustCompile(`^[a-z][a-z0-9]*`)
	numberPattern  = regexp.MustCompile(`^[0-9]+(\.[0-9]+)?(e[+-]?[0-9]+)?`)
	stringPattern  = regexp.MustCompile(`^"([ !#-~]*)"`)
	signPattern    = regexp.MustCompile(`^(//|/=|<=|>=|:=|[-+*/^<=>:;,()\[\]])`)
	commentPattern = regexp.MustCompile(`^comment(?:[^a-z0-9;][^;]*)?;`)
)

// expected returns what Lex and Comments return, for a text within the limits.
func expected(text string) (want scanned, pieces []api.Piece) {
	last := api.Token{}
	for at := 0; ; {
		at += len(blankPattern.FindString(text[at:]))
		rest := text[at:]
		if rest == "" {
			return want, pieces
		}
		if run := runPattern.FindStringIndex(rest); run != nil && rest[run[0]:run[1]] == "comment" && run[0] == 0 {
			comment := commentPattern.FindString(rest)
			allowed := last.Kind == api.TkSign && last.Text == ";" || last.Kind == api.TkWord && last.Text == "begin"
			if comment == "" || !allowed {
				return failed(api.ErrForm, at), nil
			}
			pieces = append(pieces, api.Piece{At: at, End: at + len(comment)})
			at += len(comment)
			continue
		}
		t, e := expectedToken(rest)
		if e != api.OK {
			return failed(e, at), nil
		}
		t.At, t.End = at, at+t.End
		want.tokens = append(want.tokens, t)
		last, at = t, t.End
		if t.Kind == api.TkWord && t.Text == "end" {
			tail := expectedTail(text[at:])
			if inner := strings.Trim(tail, "\t\n\r "); inner != "" {
				from := at + strings.Index(tail, inner)
				pieces = append(pieces, api.Piece{At: from, End: from + len(inner)})
			}
			at += len(tail)
		}
	}
}

// expectedToken returns the token at the beginning of a text, as if this was at the offset 0.
func expectedToken(rest string) (t api.Token, e api.Errno) {
	if s := wordPattern.FindString(rest); s != "" {
		if slices.Contains(strings.Fields(listedWords), s) {
			return word(s, 0), api.OK
		}
		if len(s) > 16 {
			return t, api.ErrLimit
		}
		return name(s, 0), api.OK
	}
	if m := numberPattern.FindStringSubmatch(rest); m != nil {
		if regexp.MustCompile(`^[a-z.]`).MatchString(rest[len(m[0]):]) {
			return t, api.ErrForm
		}
		if m[1] == "" && m[2] == "" {
			n, e := integer.Parse(m[0])
			return whole(n, 0, len(m[0])), e
		}
		x, e := real.Parse(m[0])
		return broken(x, 0, len(m[0])), e
	}
	if m := stringPattern.FindStringSubmatch(rest); m != nil {
		if len(m[1]) > 80 {
			return t, api.ErrLimit
		}
		return quoted(m[1], 0), api.OK
	}
	if s := signPattern.FindString(rest); s != "" {
		return sign(s, 0), api.OK
	}
	return t, api.ErrForm
}

// expectedTail returns what is skipped behind the word end.
func expectedTail(rest string) string {
	end := len(rest)
	if i := strings.Index(rest, ";"); i >= 0 {
		end = i
	}
	for _, run := range runPattern.FindAllStringIndex(rest[:end], -1) {
		if s := rest[run[0]:run[1]]; s == "end" || s == "else" {
			return rest[:run[0]]
		}
	}
	return rest[:end]
}

// fragments are what texts are made of.
var fragments = []string{
	" ", "\n", "\t", "\r", "begin", "end", "else", "comment", "if", "true", "a", "x1", "e", "abcdefghijklmnop",
	"0", "12", "2147483647", "1.5", "1e", "e5", ".", ".5", "+", "-", "1e60", ";", ":=", ":", "=", "/", "//", "<", ">=", "(", "]", ",",
	"\"", "\"a b\"", "\";\"", "; comment x y;", "begin comment \";", " end it ", " end;", "A", "_", "$", "\x00", "é", "\xff", "~",
}

// fewer are the fragments of which all short lists are tried.
var fewer = []string{" ", "begin", "end", "else", "comment", "a", "e", "1", ".", "+", ";", ":=", "/", "\"", "$", "X"}

// lists yields all texts that are made of some fragments, at most as many as said.
func lists(fragments []string, most int) iter.Seq[string] {
	return func(yield func(string) bool) {
		layer := []string{""}
		for range most {
			var next []string
			for _, text := range layer {
				for _, fragment := range fragments {
					next = append(next, text+fragment)
					if !yield(text + fragment) {
						return
					}
				}
			}
			layer = next
		}
	}
}

// samples yields texts of random fragments: some with a blank between two of them.
func samples(count int) iter.Seq[string] {
	return func(yield func(string) bool) {
		source := rand.New(rand.NewSource(3))
		for range count {
			text := ""
			apart := source.Intn(2) == 0
			for range source.Intn(12) {
				text += fragments[source.Intn(len(fragments))]
				if apart && source.Intn(8) > 0 {
					text += " "
				}
			}
			if !yield(text) {
				return
			}
		}
	}
}

// accepted yields samples that have tokens, not an error, and checks that they are as many as said.
func accepted(t *testing.T, count int) iter.Seq2[string, []api.Token] {
	return func(yield func(string, []api.Token) bool) {
		found := 0
		for text := range samples(60 * count) {
			got := scan(text)
			if got.e != api.OK || len(got.tokens) == 0 {
				continue
			}
			if !yield(text, got.tokens) {
				return
			}
			if found++; found == count {
				return
			}
		}
		t.Errorf("only %d texts of %d have tokens", found, count)
	}
}

func checkExpected(t *testing.T, text string) {
	t.Helper()
	want, pieces := expected(text)
	checkLex(t, text, want)
	if got, e, at := lex.Comments(text); !slices.Equal(got, pieces) || e != want.e || at != want.at {
		t.Errorf("Comments(%q) = %v, %d, %d, not %v", text, got, e, at, pieces)
	}
	bare, from := "", 0
	for _, piece := range pieces {
		bare, from = bare+text[from:piece.At]+" ", piece.End
	}
	if want.e == api.OK {
		bare += text[from:]
	}
	if got, e, at := lex.Strip(text); got != bare || e != want.e || at != want.at {
		t.Errorf("Strip(%q) = %q, %d, %d, not %q", text, got, e, at, bare)
	}
}

func TestPromise1AllShortTexts(t *testing.T) {
	for text := range lists(fewer, 4) {
		checkExpected(t, text)
	}
}

func TestPromise1AllNumbers(t *testing.T) {
	for text := range lists([]string{"0", "7", ".", "e", "+", "-", " "}, 6) {
		checkExpected(t, text)
	}
}

func TestPromise1Samples(t *testing.T) {
	for text := range samples(30000) {
		checkExpected(t, text)
	}
}
