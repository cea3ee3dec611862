package lex

import (
	"iter"
	"strings"

	"manorboy/api"
)

// comments yields the comments of a text that has these tokens: what lies between the tokens, without the blanks around it.
func comments(text string, tokens []api.Token) iter.Seq[api.Piece] {
	return func(yield func(api.Piece) bool) {
		last := api.Token{}
	gaps:
		for _, next := range append(tokens, api.Token{At: len(text)}) {
			gap := place{text: text[:next.At], at: last.End}
			for gap.skipBlanks(); gap.at < next.At; gap.skipBlanks() {
				from := gap.at
				if !isEnd(last) {
					gap.passSemicolon()
				} else {
					// The comment behind the word end is all that is there.
					gap.at = len(withoutBlanks(gap.text))
				}
				if !yield(api.Piece{At: from, End: gap.at}) {
					break gaps
				}
			}
			last = next
		}
	}
}

// withoutBlanks returns s without the blanks at its end.
func withoutBlanks(s string) string {
	for s != "" && isBlank(s[len(s)-1]) {
		s = s[:len(s)-1]
	}
	return s
}

// Comments returns the comments of a text: L10.
func Comments(text string) ([]api.Piece, api.Errno, int) {
	tokens, e, at := Lex(text)
	if e != api.OK {
		return nil, e, at
	}
	var pieces []api.Piece
	for piece := range comments(text, tokens) {
		pieces = append(pieces, piece)
	}
	return pieces, api.OK, 0
}

// Strip returns a text with a blank in the place of each comment: L11.
func Strip(text string) (string, api.Errno, int) {
	tokens, e, at := Lex(text)
	if e != api.OK {
		return "", e, at
	}
	var kept strings.Builder
	from := 0
	for piece := range comments(text, tokens) {
		kept.WriteString(text[from:piece.At])
		kept.WriteByte(' ')
		from = piece.End
	}
	kept.WriteString(text[from:])
	return kept.String(), api.OK, 0
}
