package parse

import (
	"iter"
	"slices"

	"manorboy/api"
	"manorboy/lex"
)

// Complete returns tokens that make a program of its beginning: S11.
func Complete(l []api.Token) ([]api.Token, api.Errno, int) {
	if e, at := lex.Check(l); e != api.OK {
		return nil, e, at
	}
	if len(l) > api.MaxDraft {
		return nil, api.ErrLimit, 0
	}
	var behind []api.Token
	for {
		whole := slices.Concat(l, behind)
		_, _, wrong := read(whole, (*parser).program)
		switch {
		case wrong.e == api.OK:
			return behind, api.OK, 0
		case wrong.at < len(whole):
			return nil, wrong.e, wrong.at
		}
		// Where there is a choice, the parser asks for what leads to the end soonest, so that this comes to an end.
		behind = append(behind, wrong.right)
	}
}

// Apply returns repaired tokens: S12.
func Apply(l []api.Token, f api.Fix) ([]api.Token, api.Errno) {
	if f.Index < 0 || f.Index > len(l) || f.Drop && f.Index == len(l) {
		return nil, api.ErrArg
	}
	if f.Drop {
		return slices.Concat(l[:f.Index], l[f.Index+1:]), api.OK
	}
	return slices.Concat(l[:f.Index], []api.Token{f.Put}, l[f.Index:]), api.OK
}

// Repair returns a repair after which tokens are those of a program: S13.
func Repair(l []api.Token) (api.Fix, api.Errno, int) {
	if e, at := lex.Check(l); e != api.OK {
		return api.Fix{}, e, at
	}
	if len(l) > api.MaxRepair {
		return api.Fix{}, api.ErrLimit, 0
	}
	e, wrong := Syntax(l)
	if e == api.OK {
		return api.Fix{}, api.ErrState, 0
	}
	for fix := range repairs(wrong) {
		// Where there is no token to drop, Apply fails.
		if repaired, e := Apply(l, fix); e == api.OK && isProgram(repaired) {
			return fix, api.OK, 0
		}
	}
	return api.Fix{}, api.ErrNone, wrong
}

func isProgram(l []api.Token) bool {
	e, _ := Syntax(l)
	return e == api.OK
}

// repairs yields the repairs to try, in their order, from the index of the first wrong token down.
func repairs(wrong int) iter.Seq[api.Fix] {
	return func(yield func(api.Fix) bool) {
		tokens := insertions()
		for index := wrong; index >= 0; index-- {
			if !yield(api.Fix{Drop: true, Index: index}) {
				return
			}
			for _, t := range tokens {
				if !yield(api.Fix{Index: index, Put: t}) {
					return
				}
			}
		}
	}
}

// insertions returns the tokens that repairs insert.
func insertions() []api.Token {
	var tokens []api.Token
	for _, text := range slices.Concat(lex.Signs(), lex.Words()) {
		if text != "comment" {
			tokens = append(tokens, symbol(text))
		}
	}
	return append(tokens, someName(), api.Token{Kind: api.TkInt})
}
