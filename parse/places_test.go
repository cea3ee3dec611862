package parse_test

import (
	"slices"
	"strings"
	"testing"

	"manorboy/api"
	"manorboy/parse"
	"manorboy/tree"
)

// placesOf returns the pieces of a text that is a program.
func placesOf(t *testing.T, text string) []api.Piece {
	t.Helper()
	pieces, e, at := parse.Places(text)
	if e != api.OK || at != 0 {
		t.Fatalf("Places(%q): error %d at %d", text, e, at)
	}
	return pieces
}

func TestPromise1Places(t *testing.T) {
	for text, want := range map[string]string{
		"begin x := - y end":                            "begin x := - y end|x := - y|x|- y|y",
		"begin ; a end":                                 "begin ; a end||a",
		" begin end of x":                               "begin end|",
		"l: begin m: end":                               "l: begin m: end|m:",
		"begin x := (a) end":                            "begin x := (a) end|x := (a)|x|a",
		"begin x := + a end":                            "begin x := + a end|x := + a|x|a",
		"begin p(+ a + b) end":                          "begin p(+ a + b) end|p(+ a + b)|+ a + b|a|b",
		"begin p(+ a * b < + (c)) end":                  "begin p(+ a * b < + (c)) end|p(+ a * b < + (c))|+ a * b < + (c)|a * b|a|b|c",
		"begin p((a) * (b - (+ c)), (d)) end":           "begin p((a) * (b - (+ c)), (d)) end|p((a) * (b - (+ c)), (d))|(a) * (b - (+ c))|a|b - (+ c)|b|c|d",
		"begin goto ((if (a) then (+ b) else (c))) end": "begin goto ((if (a) then (+ b) else (c))) end|goto ((if (a) then (+ b) else (c)))|if (a) then (+ b) else (c)|a|b|c",
		"begin x := a[(1)] := - (+ b) end":              "begin x := a[(1)] := - (+ b) end|x := a[(1)] := - (+ b)|x|a[(1)]|1|- (+ b)|b",
		"begin a - b - c := 1 end":                      "",
		"begin p(a - b - c) end":                        "begin p(a - b - c) end|p(a - b - c)|a - b - c|a - b|a|b|c",
		"begin for i := (1), (a) step + b until c, d while (e) do end":                     "begin for i := (1), (a) step + b until c, d while (e) do end|for i := (1), (a) step + b until c, d while (e) do|i|(1)|1|(a) step + b until c|a|b|c|d while (e)|d|e|",
		"begin if a then else l: end":                                                      "begin if a then else l: end|if a then else l:|a||l:",
		"begin if a then ; if b then else end":                                             "begin if a then ; if b then else end|if a then|a||if b then else|b||",
		"begin own real array a[1: (2)], b, c[3: 4]; p; end":                               "begin own real array a[1: (2)], b, c[3: 4]; p; end|own real array a[1: (2)]|1|2|b, c[3: 4]|3|4|p|",
		"begin integer i; switch s := l, (m); real procedure p(x); value x; real x; ; end": "begin integer i; switch s := l, (m); real procedure p(x); value x; real x; ; end|integer i|switch s := l, (m)|l|m|real procedure p(x); value x; real x;||",
		"begin procedure p; l: q; r end":                                                   "begin procedure p; l: q; r end|procedure p; l: q|l: q|r",
		"begin comment (;\n x(\"end\", 1.5) comment end":                                   "",
		"begin comment (;\n x(\"end\", 1.5); comment a; end a end of b":                    "",
		"begin comment (;\n x(\"end\", 1.5); comment a; end of b":                          "begin comment (;\n x(\"end\", 1.5); comment a; end|x(\"end\", 1.5)|\"end\"|1.5|",
	} {
		if want == "" {
			if pieces, e, _ := parse.Places(text); e != api.ErrForm || len(pieces) > 0 {
				t.Errorf("Places(%q) = %v, %d", text, pieces, e)
			}
			continue
		}
		var parts []string
		for _, piece := range placesOf(t, text) {
			parts = append(parts, text[piece.At:piece.End])
		}
		if got := strings.Join(parts, "|"); got != want {
			t.Errorf("Places(%q) are %q, not %q", text, got, want)
		}
	}
	if pieces := placesOf(t, "begin ; a end"); !slices.Equal(pieces, []api.Piece{{At: 0, End: 13}, {At: 5, End: 5}, {At: 8, End: 9}}) {
		t.Errorf("Places = %v", pieces)
	}
}

// TestPromise1WrittenPlaces compares the places in texts that are written at random with those that they were written to.
func TestPromise1WrittenPlaces(t *testing.T) {
	w := newWriter(11)
	for range 1000 {
		s := w.program(w.from(2, 6))
		text := w.text()
		if pieces := placesOf(t, text); !slices.Equal(pieces, w.pieces()) {
			t.Fatalf("Places(%q) = %v, not %v, for %s", text, pieces, w.pieces(), showStmt(s))
		}
	}
}

func TestPromise1Find(t *testing.T) {
	text := "begin x := - y end"
	for at, want := range []int{0, 0, 0, 0, 0, 0, 2, 1, 1, 1, 1, 3, 3, 4, 0, 0, 0, 0} {
		if number, e := parse.Find(text, at); number != want || e != api.OK {
			t.Errorf("Find(%d) = %d, %d, not %d", at, number, e, want)
		}
	}
	for _, at := range []int{-1, 18, 19, 1 << 40, -1 << 40} {
		if number, e := parse.Find(text, at); number != 0 || e != api.ErrNone {
			t.Errorf("Find(%d) = %d, %d", at, number, e)
		}
	}
	for _, at := range []int{0, 10} {
		if number, e := parse.Find(" begin end", at); number != 0 || e != api.ErrNone {
			t.Errorf("Find(%d) = %d, %d", at, number, e)
		}
	}
	// An element and its expression have the same piece.
	if number, e := parse.Find("begin for i := 1 do end", 15); number != 4 || e != api.OK {
		t.Errorf("Find = %d, %d", number, e)
	}
}

// TestPromise1AllOffsets compares Find with Places at all offsets.
func TestPromise1AllOffsets(t *testing.T) {
	w := newWriter(12)
	for range 20 {
		w.program(4)
		text := w.text()
		pieces := placesOf(t, text)
		for at := -1; at <= min(len(text), 200)+1; at++ {
			want, wantE := 0, api.ErrNone
			for number, piece := range pieces {
				if piece.At <= at && at < piece.End {
					want, wantE = number, api.OK
				}
			}
			if number, e := parse.Find(text, at); number != want || e != wantE {
				t.Fatalf("Find(%q, %d) = %d, %d, not %d, %d", text, at, number, e, want, wantE)
			}
		}
	}
}

// within reports whether a piece lies within another one.
func within(inner, outer api.Piece) bool { return outer.At <= inner.At && inner.End <= outer.End }

func TestPromise6Order(t *testing.T) {
	w := newWriter(13)
	for range 300 {
		s := w.program(w.from(2, 6))
		pieces := placesOf(t, w.text())
		paths, e := tree.Paths(s)
		if e != api.OK || len(paths) != len(pieces) {
			t.Fatalf("%d pieces of %d parts", len(pieces), len(paths))
		}
		numbers := map[string]int{}
		key := func(path []int) string {
			var text strings.Builder
			for _, i := range path {
				text.WriteRune(rune('0' + i))
			}
			return text.String()
		}
		for number, path := range paths {
			numbers[key(path)] = number
			if len(path) == 0 {
				continue
			}
			outer, last := path[:len(path)-1], path[len(path)-1]
			if parent := pieces[numbers[key(outer)]]; !within(pieces[number], parent) {
				t.Fatalf("%v of %v is not within %v", pieces[number], path, parent)
			}
			if last > 0 {
				beside := pieces[numbers[key(append(slices.Clone(outer), last-1))]]
				if pieces[number].At < beside.End {
					t.Fatalf("%v of %v is not behind %v", pieces[number], path, beside)
				}
			}
		}
	}
}

func TestPromise6Alone(t *testing.T) {
	w := newWriter(14)
	for range 200 {
		s := w.program(w.from(2, 5))
		text := w.text()
		pieces := placesOf(t, text)
		paths, _ := tree.Paths(s)
		for number, path := range paths {
			part, _ := tree.At(s, path)
			alone := text[pieces[number].At:pieces[number].End]
			switch part.Kind {
			case api.PaStmt:
				if got, e, at := parse.ParseStmt(alone); e != api.OK || at != 0 || !tree.Same(got, part.Stmt) {
					t.Fatalf("ParseStmt(%q) = %s, %d at %d, not %s", alone, showStmt(got), e, at, showStmt(part.Stmt))
				}
			case api.PaExp:
				if got, e, at := parse.ParseExp(alone); e != api.OK || at != 0 || !tree.SameExp(got, part.Exp) {
					t.Fatalf("ParseExp(%q) = %s, %d at %d, not %s", alone, showExp(got), e, at, showExp(part.Exp))
				}
			}
		}
	}
}
