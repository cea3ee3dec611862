package lex_test

import (
	"fmt"
	"slices"
	"strings"
	"testing"

	"manorboy/api"
	"manorboy/lex"
	"manorboy/real"
)

// scanned is what Lex returns.
type scanned struct {
	tokens []api.Token
	e      api.Errno
	at     int
}

func scan(text string) scanned {
	tokens, e, at := lex.Lex(text)
	return scanned{tokens, e, at}
}

func failed(e api.Errno, at int) scanned { return scanned{nil, e, at} }

func equal(a, b scanned) bool {
	return slices.Equal(a.tokens, b.tokens) && a.e == b.e && a.at == b.at
}

// shown is a value as a text that is not too long.
func shown(x any) string { return fmt.Sprintf("%.500s", fmt.Sprint(x)) }

func token(kind int, text string, at, end int) api.Token {
	return api.Token{Kind: kind, Text: text, At: at, End: end}
}

func word(text string, at int) api.Token { return token(api.TkWord, text, at, at+len(text)) }
func name(text string, at int) api.Token { return token(api.TkName, text, at, at+len(text)) }
func sign(text string, at int) api.Token { return token(api.TkSign, text, at, at+len(text)) }

// quoted is a string whose first quotation mark is at an offset.
func quoted(text string, at int) api.Token { return token(api.TkString, text, at, at+len(text)+2) }

func whole(n, at, end int) api.Token { return api.Token{Kind: api.TkInt, N: n, At: at, End: end} }

func broken(x api.Real, at, end int) api.Token {
	return api.Token{Kind: api.TkReal, Real: x, At: at, End: end}
}

// number is the real that a string denotes.
func number(text string) api.Real {
	x, e := real.Parse(text)
	if e != api.OK {
		panic(text)
	}
	return x
}

// sample is the text of the chapter's examples that has comments.
const sample = "begin comment a; b end c, \"d else"

const listedWords = "begin end if then else for do step until while goto own integer real boolean array switch procedure value label string true false comment not and or imp eqv"

const listedSigns = "+ - * / // ^ < <= = /= >= > := : ; , ( ) [ ]"

func TestPromise1WordsAndSigns(t *testing.T) {
	for range 2 {
		words, signs := lex.Words(), lex.Signs()
		if !slices.Equal(words, strings.Fields(listedWords)) {
			t.Errorf("Words() = %q", words)
		}
		if !slices.Equal(signs, strings.Fields(listedSigns)) {
			t.Errorf("Signs() = %q", signs)
		}
		// A caller may change what it got.
		clear(words)
		clear(signs)
	}
}

func TestPromise1IsWord(t *testing.T) {
	for _, s := range strings.Fields(listedWords) {
		if !lex.IsWord(s) || lex.IsName(s) {
			t.Errorf("%q is a reserved word, and no identifier", s)
		}
	}
	for _, s := range []string{"", " ", "Begin", "END", "beginn", "begi", "begin ", " begin", "begin1", "i", "f", ";", "+", "x", "beginend", "begin end"} {
		if lex.IsWord(s) {
			t.Errorf("%q is no reserved word", s)
		}
	}
}

func TestPromise1IsName(t *testing.T) {
	for _, s := range []string{"a", "z", "m", "a0", "z9", "begin1", "begins", "en", "iff", "abcdefghijklmnop", "a123456789012345", "zzzzzzzzzzzzzzzz"} {
		if !lex.IsName(s) {
			t.Errorf("%q is an identifier", s)
		}
	}
	for _, s := range []string{"", "0", "9a", "A", "aB", "a_", "a b", " a", "a ", "a;", "a.", "\"a\"", "a`", "a{", "`a", "{a", "a/", "a:", "a\x00", "a\x80", "é", "abcdefghijklmnopq", "12", "+"} {
		if lex.IsName(s) {
			t.Errorf("%q is no identifier", s)
		}
	}
}

func checkLex(t *testing.T, text string, want scanned) {
	t.Helper()
	if got := scan(text); !equal(got, want) {
		t.Errorf("Lex(%.200q) = %s, not %s", text, shown(got), shown(want))
	}
}

func checkTokens(t *testing.T, text string, tokens ...api.Token) {
	t.Helper()
	checkLex(t, text, scanned{tokens: tokens})
}

func TestPromise1Tokens(t *testing.T) {
	checkTokens(t, "")
	checkTokens(t, " \t\r\n ")
	checkTokens(t, "x1:=2//y", name("x1", 0), sign(":=", 2), whole(2, 4, 5), sign("//", 5), name("y", 7))
	checkTokens(t, "1.5e2 7", broken(real.FromInt(150), 0, 5), whole(7, 6, 7))
	checkTokens(t, "\tif\nx\rthen y\n", word("if", 1), name("x", 4), word("then", 6), name("y", 11))
	checkTokens(t, sample, word("begin", 0), name("b", 17), word("end", 19), word("else", 29))
}

func TestPromise1Words(t *testing.T) {
	for _, s := range strings.Fields(listedWords) {
		if s != "comment" {
			checkTokens(t, s, word(s, 0))
		}
		checkTokens(t, s+"x", name(s+"x", 0))
		checkTokens(t, s+"1 ", name(s+"1", 0))
		checkTokens(t, "x"+s, name("x"+s, 0))
	}
	checkTokens(t, "abcdefghijklmnop", name("abcdefghijklmnop", 0))
	checkTokens(t, "a1b2(c", name("a1b2", 0), sign("(", 4), name("c", 5))
	checkLex(t, "abcdefghijklmnopq", failed(api.ErrLimit, 0))
	checkLex(t, "a; b12345678901234567;$", failed(api.ErrLimit, 3))
	checkLex(t, "xY", failed(api.ErrForm, 1))
	checkLex(t, "Begin", failed(api.ErrForm, 0))
	checkLex(t, "a_b", failed(api.ErrForm, 1))
	checkLex(t, "`", failed(api.ErrForm, 0))
	checkLex(t, "{", failed(api.ErrForm, 0))
}

func TestPromise1Integers(t *testing.T) {
	checkTokens(t, "0", whole(0, 0, 1))
	checkTokens(t, "000", whole(0, 0, 3))
	checkTokens(t, "0123456789", whole(123456789, 0, 10))
	checkTokens(t, "2147483647", whole(2147483647, 0, 10))
	checkTokens(t, strings.Repeat("0", 99)+"7", whole(7, 0, 100))
	checkTokens(t, "-5", sign("-", 0), whole(5, 1, 2))
	checkTokens(t, "1+2", whole(1, 0, 1), sign("+", 1), whole(2, 2, 3))
	checkTokens(t, "3[", whole(3, 0, 1), sign("[", 1))
	checkLex(t, "a 2147483648", failed(api.ErrRange, 2))
	checkLex(t, "99999999999999999999999", failed(api.ErrRange, 0))
	checkLex(t, "; 12a", failed(api.ErrForm, 2))
	checkLex(t, "12end", failed(api.ErrForm, 0))
	checkLex(t, "2147483648a", failed(api.ErrForm, 0))
	checkLex(t, "1A", failed(api.ErrForm, 1))
	checkLex(t, "1_", failed(api.ErrForm, 1))
}

func TestPromise1Reals(t *testing.T) {
	for _, s := range []string{"0.0", "1.5", "00.50", "1e5", "1e+5", "1e-5", "1.5e2", "1.25e-07", "12.5e+003", "0e99999", "1e-60", "16777217.0", strings.Repeat("1", 35) + "." + strings.Repeat("2", 24)} {
		checkTokens(t, s, broken(number(s), 0, len(s)))
		checkTokens(t, "("+s+")", sign("(", 0), broken(number(s), 1, len(s)+1), sign(")", len(s)+1))
		checkTokens(t, s+"\"a\"", broken(number(s), 0, len(s)), quoted("a", len(s)))
		checkLex(t, s+".", failed(api.ErrForm, 0))
		checkLex(t, s+"a", failed(api.ErrForm, 0))
		checkLex(t, s+"e", failed(api.ErrForm, 0))
		checkLex(t, s+"e+", failed(api.ErrForm, 0))
		checkLex(t, s+".5", failed(api.ErrForm, 0))
	}
	checkTokens(t, "1.5+2", broken(number("1.5"), 0, 3), sign("+", 3), whole(2, 4, 5))
	checkTokens(t, "1e5+2", broken(number("1e5"), 0, 3), sign("+", 3), whole(2, 4, 5))
	for _, s := range []string{"1.", "1.e5", "1.a", "1..2", "1. 5", "1.5.2", "2e", "2e+", "2e-", "2e++1", "2e+a", "2ee5", "2f", "1e5e1"} {
		checkLex(t, s, failed(api.ErrForm, 0))
		checkLex(t, " ;"+s, failed(api.ErrForm, 2))
	}
	checkLex(t, ".5", failed(api.ErrForm, 0))
	checkLex(t, "1 .5", failed(api.ErrForm, 2))
	checkLex(t, ", 1e60", failed(api.ErrRange, 2))
	checkLex(t, ", 1e60a", failed(api.ErrForm, 2))
	// A real number of more than 60 bytes is none.
	checkLex(t, strings.Repeat("1", 36)+"."+strings.Repeat("2", 24), failed(api.ErrForm, 0))
}

func TestPromise1Strings(t *testing.T) {
	checkTokens(t, `""`, quoted("", 0))
	checkTokens(t, `"" "a"`, quoted("", 0), quoted("a", 3))
	checkTokens(t, `"a""b"`, quoted("a", 0), quoted("b", 3))
	checkTokens(t, `x"end; comment"y`, name("x", 0), quoted("end; comment", 1), name("y", 15))
	plain := ""
	for c := byte(32); c <= 126; c++ {
		if c != 34 {
			plain += string(rune(c))
		}
	}
	checkTokens(t, `"`+plain[:80]+`"`, quoted(plain[:80], 0))
	checkTokens(t, `"`+plain[14:]+`"`, quoted(plain[14:], 0))
	checkLex(t, `;"`+plain[:81]+`"`, failed(api.ErrLimit, 1))
	for _, c := range []string{"\x00", "\t", "\n", "\r", "\x1f", "\x7f", "\x80", "\xff", "é"} {
		checkLex(t, `a "x`+c+`"`, failed(api.ErrForm, 2))
		checkLex(t, `"`+c+`"`, failed(api.ErrForm, 0))
		checkLex(t, `"`+strings.Repeat("x", 90)+c+`"`, failed(api.ErrForm, 0))
	}
	checkLex(t, `b "x`, failed(api.ErrForm, 2))
	checkLex(t, `"`, failed(api.ErrForm, 0))
	checkLex(t, `"a" "`, failed(api.ErrForm, 4))
	checkLex(t, `"`+strings.Repeat("x", 90), failed(api.ErrForm, 0))
}

func TestPromise1Signs(t *testing.T) {
	for _, s := range strings.Fields(listedSigns) {
		checkTokens(t, s, sign(s, 0))
		checkTokens(t, s+"a", sign(s, 0), name("a", len(s)))
		checkTokens(t, s+" =", sign(s, 0), sign("=", len(s)+1))
	}
	checkTokens(t, "///", sign("//", 0), sign("/", 2))
	checkTokens(t, "//=", sign("//", 0), sign("=", 2))
	checkTokens(t, "/=/", sign("/=", 0), sign("/", 2))
	checkTokens(t, "<=>=", sign("<=", 0), sign(">=", 2))
	checkTokens(t, "=<<>", sign("=", 0), sign("<", 1), sign("<", 2), sign(">", 3))
	checkTokens(t, "::==", sign(":", 0), sign(":=", 1), sign("=", 3))
	checkTokens(t, "=/", sign("=", 0), sign("/", 1))
	checkTokens(t, "**^", sign("*", 0), sign("*", 1), sign("^", 2))
	signs := listedSigns + " \""
	for c := range 256 {
		s := string([]byte{byte(c)})
		if c < '0' && !strings.Contains(signs, s) && !strings.Contains("\t\n\r", s) || c > 'z' {
			checkLex(t, "c "+s, failed(api.ErrForm, 2))
		}
	}
	for _, s := range []string{"$", ".", "!", "?", "@", "'", "\\", "|", "\x00", "\x0b", "\x0c", "\xa0", "é"} {
		checkLex(t, s, failed(api.ErrForm, 0))
	}
}

func TestPromise1Comment(t *testing.T) {
	checkTokens(t, "begin comment;", word("begin", 0))
	checkTokens(t, "begin comment x; y", word("begin", 0), name("y", 17))
	checkTokens(t, ";comment begin \" 1a $ \n \x00\xff comment;y", sign(";", 0), name("y", 35))
	checkTokens(t, "; comment a; comment b;comment+;z", sign(";", 0), name("z", 32))
	checkTokens(t, ";comment;;", sign(";", 0), sign(";", 9))
	checkTokens(t, ";comments;", sign(";", 0), name("comments", 1), sign(";", 9))
	checkTokens(t, "; comment1;", sign(";", 0), name("comment1", 2), sign(";", 10))
	checkTokens(t, "begincomment;", name("begincomment", 0), sign(";", 12))
	checkTokens(t, "begin comment\"x;", word("begin", 0))
	checkTokens(t, "begin commentX;", word("begin", 0))
	for _, ahead := range []string{"", " ", "a ", "1 ", "1.5 ", "\"a\"", "\";\" ", "\"begin\" ", "if ", "begin begin1 ", "; else ", ": ", ":= ", "begin (", "begin a "} {
		checkLex(t, ahead+"comment x;", failed(api.ErrForm, len(ahead)))
		checkLex(t, ahead+"comment", failed(api.ErrForm, len(ahead)))
	}
	checkLex(t, "a comment b;", failed(api.ErrForm, 2))
	checkLex(t, "; comment b", failed(api.ErrForm, 2))
	checkLex(t, "begin comment b; comment", failed(api.ErrForm, 17))
	checkLex(t, "; 1comment x;", failed(api.ErrForm, 2))
}

func TestPromise1BehindEnd(t *testing.T) {
	end := word("end", 0)
	checkTokens(t, "end", end)
	checkTokens(t, "end ", end)
	checkTokens(t, "end;x", end, sign(";", 3), name("x", 4))
	checkTokens(t, "end a 1b \" $ \x00 é . begin comment; x", end, sign(";", 33), name("x", 35))
	checkTokens(t, "end end end", end, word("end", 4), word("end", 8))
	checkTokens(t, "end x else y", end, word("else", 6), name("y", 11))
	checkTokens(t, "end ends 1end end1 xelse elsex 1else else1 else", end, word("else", 43))
	checkTokens(t, "end.end", end, word("end", 4))
	checkTokens(t, "end Xelse", end, word("else", 5))
	checkTokens(t, "end_else", end, word("else", 4))
	checkTokens(t, "end_end_end", end, word("end", 4), word("end", 8))
	checkTokens(t, "end 1;2", end, sign(";", 5), whole(2, 6, 7))
	checkTokens(t, "begin end comment", word("begin", 0), word("end", 6))
	checkTokens(t, "end x\n\tend", end, word("end", 7))
	checkTokens(t, "end1 x", name("end1", 0), name("x", 5))
	checkLex(t, "end elseX", failed(api.ErrForm, 8))
	// Quotation marks have no meaning behind end, but behind the next word they have.
	checkLex(t, "end \" else \"", failed(api.ErrForm, 11))
	checkLex(t, "end \";\"", failed(api.ErrForm, 6))
	checkLex(t, "end a; comment", failed(api.ErrForm, 7))
	checkLex(t, "end else comment;", failed(api.ErrForm, 9))
}

func TestPromise1MaxSource(t *testing.T) {
	checkTokens(t, strings.Repeat(" ", api.MaxSource))
	checkTokens(t, strings.Repeat("\n", api.MaxSource-1)+"x", name("x", api.MaxSource-1))
	checkLex(t, strings.Repeat(" ", api.MaxSource+1), failed(api.ErrLimit, 0))
	checkLex(t, "$"+strings.Repeat(" ", api.MaxSource), failed(api.ErrLimit, 0))
	checkLex(t, "$"+strings.Repeat(" ", api.MaxSource-1), failed(api.ErrForm, 0))
	checkLex(t, strings.Repeat(" ", api.MaxSource-1)+"$", failed(api.ErrForm, api.MaxSource-1))
}

func TestPromise1MaxTokens(t *testing.T) {
	full := strings.Repeat(";", api.MaxTokens)
	for _, behind := range []string{"", " \n", "comment a;", " comment a; comment b; "} {
		if got := scan(full + behind); len(got.tokens) != api.MaxTokens || got.e != api.OK {
			t.Errorf("%d signs and %q: %d tokens, error %d", api.MaxTokens, behind, len(got.tokens), got.e)
		}
	}
	for _, behind := range []string{";", "a", "1", "1a", "$", "\"", "comments", "end"} {
		checkLex(t, full+behind, failed(api.ErrLimit, api.MaxTokens))
		checkLex(t, full+"\n comment;"+behind, failed(api.ErrLimit, api.MaxTokens+10))
	}
	checkLex(t, full+"comment", failed(api.ErrForm, api.MaxTokens))
	checkLex(t, full[1:]+"a comment;", failed(api.ErrForm, api.MaxTokens+1))
	checkLex(t, full[1:]+"$;", failed(api.ErrForm, api.MaxTokens-1))
	if got := scan(full[1:] + "end of; it"); got.e != api.ErrLimit || got.at != api.MaxTokens+5 {
		t.Errorf("behind the last word end: error %d at %d", got.e, got.at)
	}
	if got := scan(full[1:] + "end of it"); got.e != api.OK || len(got.tokens) != api.MaxTokens {
		t.Errorf("a comment behind the last word end: error %d at %d", got.e, got.at)
	}
}
