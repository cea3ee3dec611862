package parse

import (
	"cmp"
	"slices"

	"manorboy/api"
	"manorboy/tree"
)

// Places returns where the parts of a program lie in its text: S9.
func Places(text string) ([]api.Piece, api.Errno, int) {
	_, p, e, at := denotedByText(text, (*parser).program, tree.Check)
	if e != api.OK {
		return nil, e, at
	}
	var pieces []api.Piece
	for _, part := range p.numberedParts() {
		pieces = append(pieces, p.piece(part))
	}
	return pieces, api.OK, 0
}

// Find returns the number of the innermost part of a program at an offset: S10.
func Find(text string, at int) (int, api.Errno) {
	pieces, e, _ := Places(text)
	if e != api.OK {
		return 0, e
	}
	for number, piece := range slices.Backward(pieces) {
		if piece.At <= at && at < piece.End {
			return number, api.OK
		}
	}
	return 0, api.ErrNone
}

// numberedParts returns the tokens of the parts in the order of their numbers. This is the order in which they begin; of those that begin with the same token, each one lies within those that end later.
func (p *parser) numberedParts() []span {
	parts := slices.Clone(p.parts)
	slices.Reverse(parts)
	slices.SortStableFunc(parts, func(a, b span) int { return cmp.Compare(a.from, b.from) })
	return parts
}

// piece returns where the tokens of a part lie in the text. If it has none, there is one ahead of it.
func (p *parser) piece(part span) api.Piece {
	last := p.tokens[part.to-1]
	if part.from == part.to {
		return api.Piece{At: last.End, End: last.End}
	}
	return api.Piece{At: p.tokens[part.from].At, End: last.End}
}
