package lex

import (
	"slices"
	"strings"

	"manorboy/api"
	"manorboy/integer"
	"manorboy/real"
)

func isWord(t api.Token, text string) bool { return t.Kind == api.TkWord && t.Text == text }

func isEnd(t api.Token) bool { return isWord(t, wordEnd) }

func isSemicolon(t api.Token) bool { return t.Kind == api.TkSign && t.Text == semicolon }

// Valid reports whether a token is valid: L12.
func Valid(t api.Token) bool {
	// What the kind has is put into a token that has nothing else.
	only := api.Token{Kind: t.Kind, At: t.At, End: t.End}
	fits := false
	switch t.Kind {
	case api.TkWord:
		only.Text, fits = t.Text, IsWord(t.Text) && t.Text != wordComment
	case api.TkName:
		only.Text, fits = t.Text, IsName(t.Text)
	case api.TkInt:
		only.N, fits = t.N, integer.Valid(t.N) && t.N >= 0
	case api.TkReal:
		only.Real, fits = t.Real, real.Valid(t.Real) && t.Real.Man >= 0
	case api.TkString:
		only.Text, fits = t.Text, len(t.Text) <= api.MaxText && lead(t.Text, isPlain) == t.Text
	case api.TkSign:
		only.Text, fits = t.Text, isSign(t.Text)
	}
	return fits && t == only
}

// mayFollow reports whether a token can stand behind another one. The word end makes a comment of most tokens behind it.
func mayFollow(last, t api.Token) bool {
	return !isEnd(last) || isSemicolon(t) || isEnd(t) || isWord(t, wordElse)
}

// Check reports whether tokens can be those of a text: L13.
func Check(l []api.Token) (api.Errno, int) {
	if len(l) > api.MaxTokens {
		return api.ErrLimit, 0
	}
	last := api.Token{}
	for i, t := range l {
		if !Valid(t) || !mayFollow(last, t) {
			return api.ErrForm, i
		}
		last = t
	}
	return api.OK, 0
}

// spelling returns the text of a valid token.
func spelling(t api.Token) string {
	text := t.Text
	switch t.Kind {
	case api.TkInt:
		text, _ = integer.Print(t.N)
	case api.TkReal:
		text, _ = real.Print(t.Real)
	case api.TkString:
		text = string(quote) + t.Text + string(quote)
	}
	return text
}

// Print returns a text with given tokens: L14.
func Print(l []api.Token) (string, api.Errno, int) {
	if e, at := Check(l); e != api.OK {
		return "", e, at
	}
	var text strings.Builder
	for i, t := range l {
		if i > 0 {
			text.WriteByte(' ')
		}
		text.WriteString(spelling(t))
		if text.Len() > api.MaxSource {
			return "", api.ErrLimit, 0
		}
	}
	return text.String(), api.OK, 0
}

// alike reports whether two tokens are equal, wherever they are.
func alike(a, b api.Token) bool {
	a.At, a.End = b.At, b.End
	return a == b
}

// Same reports whether two lists of tokens are the same but for offsets: L15.
func Same(a, b []api.Token) bool { return slices.EqualFunc(a, b, alike) }

// Diff returns how many tokens at the beginning, and how many at the end, two lists have in common: L16.
func Diff(a, b []api.Token) (head, tail int) {
	most := min(len(a), len(b))
	for head < most && alike(a[head], b[head]) {
		head++
	}
	for tail < most-head && alike(a[len(a)-1-tail], b[len(b)-1-tail]) {
		tail++
	}
	return head, tail
}

// Find returns the index of the token at an offset: L17.
func Find(l []api.Token, at int) (int, api.Errno) {
	for i, t := range l {
		if t.At <= at && at < t.End {
			return i, api.OK
		}
	}
	return 0, api.ErrNone
}
