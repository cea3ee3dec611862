package parse_test

import (
	"slices"
	"strings"
	"testing"

	"manorboy/api"
	"manorboy/lex"
	"manorboy/parse"
)

// without returns tokens without their offsets.
func without(tokens []api.Token) []api.Token {
	var list []api.Token
	for _, t := range tokens {
		t.At, t.End = 0, 0
		list = append(list, t)
	}
	return list
}

// checkCompleted checks that tokens can be completed.
func checkCompleted(t *testing.T, tokens []api.Token) {
	t.Helper()
	behind, e, at := parse.Complete(tokens)
	if e != api.OK || at != 0 || len(behind) > 2000 {
		t.Fatalf("Complete(%q) = %d tokens, %d at %d", spelt(tokens), len(behind), e, at)
	}
	for _, x := range behind {
		if !lex.Valid(x) {
			t.Errorf("Complete(%q) = %q, of which %v is not valid", spelt(tokens), spelt(behind), x)
		}
	}
	whole := slices.Concat(tokens, behind)
	if e, at := lex.Check(whole); e != api.OK {
		t.Errorf("Complete(%q) = %q: lex.Check: error %d at %d", spelt(tokens), spelt(behind), e, at)
	}
	if e, at := parse.Syntax(whole); e != api.OK {
		t.Errorf("Complete(%q) = %q: error %d at %d", spelt(tokens), spelt(behind), e, at)
	}
}

func TestPromise1Complete(t *testing.T) {
	for _, text := range []string{
		"", "l", "l:", "begin", "begin end", "begin goto", "begin x", "begin x[", "begin x[1", "begin x[1]", "begin x :=", "begin x := y :=", "begin l:", "begin p(", "begin p(1,",
		"begin if", "begin if a", "begin if a then", "begin if a then b else", "begin x := if", "begin x := if a", "begin x := if a then b", "begin x := if a then b else", "begin x := (", "begin x := -", "begin x := not", "begin x := a +", "begin x := a <",
		"begin for", "begin for i", "begin for i :=", "begin for i := 1", "begin for i := 1 step", "begin for i := 1 step 2", "begin for i := 1 step 2 until", "begin for i := 1 while", "begin for i := 1,", "begin for i := 1 do",
		"begin own", "begin own real", "begin own real array", "begin real", "begin real x", "begin real x,", "begin array", "begin array a", "begin array a,", "begin array a[", "begin array a[1", "begin array a[1:", "begin array a[1: 2", "begin array a[1: 2,", "begin array a[1: 2]", "begin array a[1: 2],",
		"begin switch", "begin switch s", "begin switch s :=", "begin switch s := l", "begin switch s := l,", "begin procedure", "begin procedure p", "begin procedure p(", "begin procedure p(x", "begin procedure p(x,", "begin procedure p(x)",
		"begin procedure p;", "begin procedure p; value", "begin procedure p; value x", "begin procedure p; value x;", "begin procedure p; integer", "begin procedure p; integer x", "begin procedure p; integer array", "begin procedure p; label", "begin procedure p; procedure", "begin procedure p; procedure x;", "begin procedure p; begin",
		"begin begin", "begin begin end", "begin begin end;", "begin if a then begin end", "begin if a then begin end else",
		"begin " + strings.Repeat("x := 1; ", 37) + "x", // 150 tokens
		strings.Repeat("begin ", 150),
		"begin goto " + strings.Repeat("(", 148),
		"begin goto " + strings.Repeat("a[", 74),
		"begin goto " + strings.Repeat("if (", 74),
		"begin goto " + strings.Repeat("not (", 74),
		strings.Repeat("begin if a then ", 37),
		strings.Repeat("begin procedure p; ", 37),
		strings.Repeat("begin procedure p; integer x, x; ", 16) + "begin array",
		"begin " + strings.Repeat("if a then b else ", 29) + "for",
	} {
		checkCompleted(t, lexed(t, text))
	}
	for range 2 {
		behind, _, _ := parse.Complete(lexed(t, "begin goto"))
		checkCompleted(t, lexed(t, "begin goto"))
		clear(behind) // the caller may change what it got
	}
	if behind, e, _ := parse.Complete(lexed(t, "begin end")); len(behind) != 0 || e != api.OK {
		t.Errorf("Complete = %v, %d", behind, e)
	}
}

func TestPromise1CompleteErrors(t *testing.T) {
	x := strings.Repeat("x := 1; ", 37)
	for text, want := range map[string]struct {
		e  api.Errno
		at int
	}{
		"x := 1":                  {api.ErrForm, 1},
		"begin )":                 {api.ErrForm, 1},
		"begin end;":              {api.ErrForm, 2},
		"begin x := 1 2":          {api.ErrForm, 4},
		"begin " + x + "x)":       {api.ErrLimit, 0},
		"begin " + x + "x :=":     {api.ErrLimit, 0},
		"begin " + x + ")":        {api.ErrForm, 149},
		"begin " + x + "end":      {api.OK, 0},
		"begin " + x + "; end":    {api.ErrLimit, 0},
		strings.Repeat("l ", 150): {api.ErrForm, 1},
		strings.Repeat("l ", 151): {api.ErrLimit, 0},
	} {
		behind, e, at := parse.Complete(lexed(t, text))
		if e != want.e || at != want.at || e != api.OK && len(behind) > 0 {
			t.Errorf("Complete(%q) = %v, %d at %d, not %d at %d", text, behind, e, at, want.e, want.at)
		}
	}
}

// TestPromise1CompleteBeginnings completes all beginnings of random programs, and of programs that have become wrong.
func TestPromise1CompleteBeginnings(t *testing.T) {
	w := newWriter(21)
	for range 60 {
		w.program(w.from(2, 5))
		for i := range min(len(w.tokens), api.MaxDraft) + 1 {
			checkCompleted(t, w.tokens[:i])
		}
		wrong := w.mutate(w.tokens)
		if e, _ := lex.Check(wrong); e != api.OK || len(wrong) > api.MaxDraft {
			continue
		}
		e, index := parse.Syntax(wrong)
		behind, got, at := parse.Complete(wrong)
		if e != api.OK && index < len(wrong) && (got != e || at != index || len(behind) > 0) {
			t.Errorf("Complete(%q) = %v, %d at %d, not %d at %d", spelt(wrong), behind, got, at, e, index)
		}
	}
}

func TestPromise1Apply(t *testing.T) {
	a, b, c := api.Token{Kind: api.TkName, Text: "a", At: 3, End: 9}, api.Token{Kind: api.TkInt, N: -7}, api.Token{Kind: 99, Text: "$", N: 1, Real: api.Real{Man: 1}, At: -1, End: -5}
	list := []api.Token{a, b}
	for _, x := range []struct {
		list []api.Token
		fix  api.Fix
		want []api.Token
		e    api.Errno
	}{
		{list, api.Fix{Put: c}, []api.Token{c, a, b}, api.OK},
		{list, api.Fix{Index: 1, Put: c}, []api.Token{a, c, b}, api.OK},
		{list, api.Fix{Index: 2, Put: c}, []api.Token{a, b, c}, api.OK},
		{list, api.Fix{Index: 2}, []api.Token{a, b, {}}, api.OK},
		{list, api.Fix{Index: 3, Put: c}, nil, api.ErrArg},
		{list, api.Fix{Index: -1, Put: c}, nil, api.ErrArg},
		{list, api.Fix{Drop: true}, []api.Token{b}, api.OK},
		{list, api.Fix{Drop: true, Index: 1, Put: c}, []api.Token{a}, api.OK},
		{list, api.Fix{Drop: true, Index: 2}, nil, api.ErrArg},
		{list, api.Fix{Drop: true, Index: -1}, nil, api.ErrArg},
		{list, api.Fix{Drop: true, Index: 1 << 62}, nil, api.ErrArg},
		{list, api.Fix{Index: -1 << 63}, nil, api.ErrArg},
		{nil, api.Fix{Put: b}, []api.Token{b}, api.OK},
		{nil, api.Fix{Drop: true}, nil, api.ErrArg},
		{nil, api.Fix{Index: 1}, nil, api.ErrArg},
		{list[:1], api.Fix{Drop: true}, nil, api.OK},
		{slices.Repeat(list, api.MaxTokens), api.Fix{Index: 1, Put: c}, slices.Concat([]api.Token{a, c, b}, slices.Repeat(list, api.MaxTokens-1)), api.OK},
	} {
		got, e := parse.Apply(x.list, x.fix)
		if e != x.e || !slices.Equal(got, x.want) {
			t.Errorf("Apply(%.3v, %v) = %.3v, %d, not %.3v, %d", x.list, x.fix, got, e, x.want, x.e)
		}
	}
}

// TestPromise1Spare checks that what lies behind the end of a list is not touched, and that results are new.
func TestPromise1Spare(t *testing.T) {
	whole := lexed(t, "begin x := 1 end begin end end begin end end end end")
	for n := range len(whole) {
		before := slices.Clone(whole)
		list := whole[:n]
		_, _, _ = parse.Complete(list)
		_, _, _ = parse.Repair(list)
		_, _, _ = parse.Tokens(list)
		_, _ = parse.Syntax(list)
		for index := range n + 1 {
			put, _ := parse.Apply(list, api.Fix{Index: index, Put: api.Token{Kind: 77}})
			clear(put)
			dropped, _ := parse.Apply(list, api.Fix{Index: index, Drop: true})
			clear(dropped)
			if cap(dropped) > 0 {
				clear(dropped[:cap(dropped)])
			}
		}
		if !slices.Equal(whole, before) {
			t.Fatalf("the tokens have become %v", whole)
		}
	}
}

// wantedRepair tries all repairs in the order of the chapter.
func wantedRepair(tokens []api.Token, wrong int) (api.Fix, api.Errno) {
	words := strings.Fields("+ - * / // ^ < <= = /= >= > := : ; , ( ) [ ] begin end if then else for do step until while goto own integer real boolean array switch procedure value label string true false not and or imp eqv")
	for index := wrong; index >= 0; index-- {
		var fixes []api.Fix
		if index < len(tokens) {
			fixes = append(fixes, api.Fix{Drop: true, Index: index})
		}
		for i, word := range words {
			kind := api.TkSign
			if i >= 20 {
				kind = api.TkWord
			}
			fixes = append(fixes, api.Fix{Index: index, Put: api.Token{Kind: kind, Text: word}})
		}
		fixes = append(fixes, api.Fix{Index: index, Put: api.Token{Kind: api.TkName, Text: "x"}}, api.Fix{Index: index, Put: api.Token{Kind: api.TkInt}})
		for _, fix := range fixes {
			repaired := slices.Clone(tokens)
			if fix.Drop {
				repaired = slices.Delete(repaired, index, index+1)
			} else {
				repaired = slices.Insert(repaired, index, fix.Put)
			}
			if e, _ := lex.Check(repaired); e != api.OK {
				continue
			}
			if e, _ := parse.Syntax(repaired); e == api.OK {
				return fix, api.OK
			}
		}
	}
	return api.Fix{}, api.ErrNone
}

// checkRepair checks the repair of tokens that are not those of a program, and what P5.10 says of it.
func checkRepair(t *testing.T, tokens []api.Token) api.Errno {
	t.Helper()
	_, wrong := parse.Syntax(tokens)
	want, wantE := wantedRepair(tokens, wrong)
	wantAt := 0
	if wantE != api.OK {
		wantAt = wrong
	}
	fix, e, at := parse.Repair(tokens)
	if fix != want || e != wantE || at != wantAt {
		t.Fatalf("Repair(%q) = %v, %d at %d, not %v, %d at %d", spelt(tokens), fix, e, at, want, wantE, wantAt)
	}
	if e != api.OK {
		return e
	}
	if fix.Index > wrong {
		t.Errorf("Repair(%q) = %v, behind the token %d", spelt(tokens), fix, wrong)
	}
	repaired, applied := parse.Apply(tokens, fix)
	if syntax, _ := parse.Syntax(repaired); applied != api.OK || syntax != api.OK {
		t.Errorf("Repair(%q) = %v, which does not help", spelt(tokens), fix)
	}
	return e
}

func TestPromise1Repair(t *testing.T) {
	name := func(text string) api.Token { return api.Token{Kind: api.TkName, Text: text} }
	sign := func(text string) api.Token { return api.Token{Kind: api.TkSign, Text: text} }
	word := func(text string) api.Token { return api.Token{Kind: api.TkWord, Text: text} }
	for text, want := range map[string]api.Fix{
		"begin x := (1 + 2 end":      {Index: 7, Put: sign(")")},
		"begin x ) end":              {Drop: true, Index: 2},
		"begin end;":                 {Drop: true, Index: 2},
		"begin":                      {Index: 1, Put: word("end")},
		"end":                        {Index: 0, Put: word("begin")},
		"begin p q end":              {Drop: true, Index: 2},
		"begin p 1 end":              {Drop: true, Index: 2},
		"begin x := end":             {Index: 3, Put: word("true")},
		"begin goto end":             {Index: 2, Put: word("true")},
		"begin x := a[1 end":         {Index: 6, Put: sign("]")},
		"begin if a p end":           {Index: 3, Put: word("then")},
		"begin if a then if b end":   {Drop: true, Index: 4},
		"begin integer ; end":        {Index: 2, Put: name("x")},
		"begin integer 7; end":       {},
		"begin array a; p end":       {},
		"begin x := 1 y := 2 end":    {Index: 4, Put: sign(";")},
		"begin switch s l; end":      {Index: 3, Put: sign(":=")},
		"begin for i := 1 p end":     {Index: 5, Put: word("do")},
		"begin own x; end":           {Index: 2, Put: word("integer")},
		"begin ; integer i; end":     {Drop: true, Index: 2},
		"begin p; integer end":       {Drop: true, Index: 3},
		"begin begin p end":          {Index: 4, Put: word("end")},
		"begin p end end":            {Drop: true, Index: 3},
		"begin l: p; : q end":        {Drop: true, Index: 5},
		"begin 7 : p end":            {},
		"begin p(1, 2 end":           {Index: 6, Put: sign(")")},
		"begin p() end":              {Index: 3, Put: word("true")},
		"begin x := 1 + * 2 end":     {Drop: true, Index: 5},
		"begin procedure p(x) ; end": {Index: 7, Put: sign(";")},
		"begin x := 1 else y end":    {},
	} {
		tokens := lexed(t, text)
		fix, e, at := parse.Repair(tokens)
		if want == (api.Fix{}) {
			checkRepair(t, tokens)
			continue
		}
		if fix != want || e != api.OK || at != 0 {
			t.Errorf("Repair(%q) = %v, %d at %d, not %v", text, fix, e, at, want)
		}
	}
}

func TestPromise1RepairErrors(t *testing.T) {
	x := strings.Repeat("x := 1; ", 14) + "x" // 57 tokens
	for text, want := range map[string]struct {
		e  api.Errno
		at int
	}{
		"begin end":                     {api.ErrState, 0},
		"begin procedure p(x, x);; end": {api.ErrState, 0},
		"begin " + x + " end":           {api.ErrState, 0},
		"begin " + x + " ) end":         {api.OK, 0},
		"begin " + x + "; ) end":        {api.ErrLimit, 0},
		"begin " + x + "; ; end":        {api.ErrLimit, 0},
		"1 2 3":                         {api.ErrNone, 0},
		"begin 1 2 3 end":               {api.ErrNone, 1},
		"":                              {api.ErrNone, 0},
		"a b c":                         {api.ErrNone, 1},
		"begin begin begin":             {api.ErrNone, 3},
	} {
		tokens := lexed(t, text)
		fix, e, at := parse.Repair(tokens)
		if e != want.e || at != want.at || e != api.OK && fix != (api.Fix{}) {
			t.Errorf("Repair(%q) (%d tokens) = %v, %d at %d, not %d at %d", text, len(tokens), fix, e, at, want.e, want.at)
		}
	}
}

// TestPromise10Repairs repairs random programs in which tokens have been changed.
func TestPromise10Repairs(t *testing.T) {
	w := newWriter(22)
	counts := map[api.Errno]int{}
	for counts[api.OK] < 100 || counts[api.ErrNone] < 8 {
		w.program(w.from(2, 3))
		if len(w.tokens) > 30 {
			continue
		}
		tokens := without(w.mutate(w.tokens))
		if e, _ := lex.Check(tokens); e != api.OK {
			continue
		}
		if e, _ := parse.Syntax(tokens); e != api.OK {
			counts[checkRepair(t, tokens)]++
		}
	}
}

func TestPromise10Undo(t *testing.T) {
	w := newWriter(23)
	all := append(everyToken(), api.Token{}, api.Token{Kind: -1, At: 7})
	for range 50 {
		w.program(3)
		_ = w.text()
		for index := range len(w.tokens) + 1 {
			put := all[w.Intn(len(all))]
			with, e := parse.Apply(w.tokens, api.Fix{Index: index, Put: put})
			if e != api.OK || len(with) != len(w.tokens)+1 || with[index] != put {
				t.Fatalf("Apply at %d: %v, %d", index, with, e)
			}
			back, e := parse.Apply(with, api.Fix{Drop: true, Index: index})
			if e != api.OK || !slices.Equal(back, w.tokens) {
				t.Fatalf("undone at %d: %v, %d", index, back, e)
			}
		}
	}
}

// TestPromise5WrongTokens puts other tokens behind the first wrong one, and completes what is ahead of it.
func TestPromise5WrongTokens(t *testing.T) {
	w := newWriter(24)
	all := everyToken()
	checked := 0
	for range 200 {
		w.program(w.from(2, 4))
		tokens := w.mutate(w.tokens)
		if e, _ := lex.Check(tokens); e != api.OK || len(tokens) > api.MaxDraft {
			continue
		}
		e, wrong := parse.Syntax(tokens)
		if e == api.OK || wrong == len(tokens) {
			continue
		}
		checked++
		checkCompleted(t, tokens[:wrong])
		for range 10 {
			other := slices.Clone(tokens[:wrong+1])
			for range w.Intn(5) {
				other = append(other, all[w.Intn(len(all))])
			}
			if lexError, _ := lex.Check(other); lexError != api.OK {
				continue
			}
			if got, at := parse.Syntax(other); got != e || at != wrong {
				t.Errorf("Syntax(%q) = %d at %d, not %d at %d", spelt(other), got, at, e, wrong)
			}
		}
	}
	if checked < 50 {
		t.Errorf("only %d are checked", checked)
	}
}
