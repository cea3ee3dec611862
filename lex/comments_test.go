package lex_test

import (
	"slices"
	"strings"
	"testing"

	"manorboy/api"
	"manorboy/lex"
)

// commented is a text, its comments, and the text without them.
type commented struct {
	text   string
	pieces []api.Piece
	bare   string
}

var commentedTexts = []commented{
	{"", nil, ""},
	{" a\n", nil, " a\n"},
	{sample, []api.Piece{{At: 6, End: 16}, {At: 23, End: 28}}, "begin   b end   else"},
	{";comment;", []api.Piece{{At: 1, End: 9}}, "; "},
	{"; comment a;comment ;; b", []api.Piece{{At: 2, End: 12}, {At: 12, End: 21}}, ";   ; b"},
	{"begin comment\n\n; comment x ; y", []api.Piece{{At: 6, End: 16}, {At: 17, End: 28}}, "begin     y"},
	{"end", nil, "end"},
	{"end \t\r\n", nil, "end \t\r\n"},
	{"end  else", nil, "end  else"},
	{"end x", []api.Piece{{At: 4, End: 5}}, "end  "},
	{"end,else", []api.Piece{{At: 3, End: 4}}, "end else"},
	{"end\n a  b \"\t;c", []api.Piece{{At: 5, End: 11}}, "end\n  \t;c"},
	{"end comment x; comment y; z", []api.Piece{{At: 4, End: 13}, {At: 15, End: 25}}, "end  ;   z"},
	{"end a end b else begin comment c; d", []api.Piece{{At: 4, End: 5}, {At: 10, End: 11}, {At: 23, End: 33}}, "end   end   else begin   d"},
	{"end \x00\xff é ", []api.Piece{{At: 4, End: 9}}, "end   "},
	{"\"; comment a;\" end \"b\" ; x", []api.Piece{{At: 19, End: 22}}, "\"; comment a;\" end   ; x"},
}

func TestPromise1Comments(t *testing.T) {
	for _, x := range commentedTexts {
		if pieces, e, at := lex.Comments(x.text); !slices.Equal(pieces, x.pieces) || e != api.OK || at != 0 {
			t.Errorf("Comments(%q) = %v, %d, %d", x.text, pieces, e, at)
		}
	}
}

func TestPromise1Strip(t *testing.T) {
	for _, x := range commentedTexts {
		if bare, e, at := lex.Strip(x.text); bare != x.bare || e != api.OK || at != 0 {
			t.Errorf("Strip(%q) = %q, %d, %d", x.text, bare, e, at)
		}
	}
}

// checkFailing checks that Comments and Strip return an error, and nothing else.
func checkFailing(t *testing.T, text string, e api.Errno, at int) {
	t.Helper()
	if pieces, f, place := lex.Comments(text); len(pieces) != 0 || f != e || place != at {
		t.Errorf("Comments(%.100q) = %v, %d, %d", text, pieces, f, place)
	}
	if bare, f, place := lex.Strip(text); bare != "" || f != e || place != at {
		t.Errorf("Strip(%.100q) = %.100q, %d, %d", text, bare, f, place)
	}
}

func TestPromise1CommentErrors(t *testing.T) {
	checkFailing(t, "a comment b;", api.ErrForm, 2)
	checkFailing(t, "; comment a; comment b", api.ErrForm, 13)
	checkFailing(t, "; comment a; 2147483648", api.ErrRange, 13)
	checkFailing(t, "; comment a; abcdefghijklmnopq", api.ErrLimit, 13)
	checkFailing(t, "end x; $", api.ErrForm, 7)
	checkFailing(t, strings.Repeat(" ", api.MaxSource+1), api.ErrLimit, 0)
	checkFailing(t, strings.Repeat(";", api.MaxTokens+1), api.ErrLimit, api.MaxTokens)
}

func TestPromise1ManyComments(t *testing.T) {
	text := strings.Repeat(";comment;", 10000)
	pieces, e, _ := lex.Comments(text)
	if e != api.OK || len(pieces) != 10000 {
		t.Errorf("%d comments, error %d", len(pieces), e)
	}
	for i, piece := range pieces {
		if piece != (api.Piece{At: 9*i + 1, End: 9*i + 9}) {
			t.Errorf("comment %d is %v", i, piece)
		}
	}
	if bare, e, _ := lex.Strip(text); e != api.OK || bare != strings.Repeat("; ", 10000) {
		t.Errorf("Strip leaves %d bytes, error %d", len(bare), e)
	}
}
