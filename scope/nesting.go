package scope

import (
	"slices"

	"manorboy/api"
)

// scope is a scope, linked to the one around it.
type scope struct {
	outer *scope

	// first has, for each identifier that is declared, the place of its first declaration: a later one in the same scope denotes nothing.
	first map[string]api.Place

	// level counts the scopes of blocks and procedures, up to this one.
	level int

	// procedure is the number of the innermost procedure whose scope is this one or around it.
	procedure int
}

// standardScope returns the scope of the standard procedures, which is around all others.
func standardScope() *scope {
	s := &scope{first: map[string]api.Place{}, procedure: -1}
	for at, p := range standard {
		s.first[p.name] = standardPlace(at)
	}
	return s
}

func standardPlace(at int) api.Place { return api.Place{Kind: api.BiStandard, Node: -1, At: at} }

// listScope returns a new scope, of a list, within a scope.
func (s *scope) listScope() *scope {
	return &scope{outer: s, first: map[string]api.Place{}, level: s.level, procedure: s.procedure}
}

// blockScope returns a new scope, of a block, within a scope.
func (s *scope) blockScope() *scope {
	inner := s.listScope()
	inner.level++
	return inner
}

// procedureScope returns a new scope, of the procedure with a number, within a scope.
func (s *scope) procedureScope(number int) *scope {
	inner := s.blockScope()
	inner.procedure = number
	return inner
}

// declare adds a declaration.
func (s *scope) declare(d declaration) {
	if !s.declares(d.name) {
		s.first[d.name] = d.place
	}
}

func (s *scope) declares(name string) bool {
	_, found := s.first[name]
	return found
}

// lookup returns the place of what an identifier denotes inside of the scope.
func (s *scope) lookup(name string) (place api.Place, known bool) {
	for ; s != nil; s = s.outer {
		if place, known = s.first[name]; known {
			return place, true
		}
	}
	return api.Place{}, false
}

// visible returns the identifiers that are known inside of the scope, in ascending order.
func (s *scope) visible() []string {
	var all []string
	for ; s != nil; s = s.outer {
		for name := range s.first {
			all = append(all, name)
		}
	}
	slices.Sort(all)
	return slices.Compact(all)
}

// isWithin reports whether the scope is that of the procedure with a number, or within it.
func (s *scope) isWithin(procedure int) bool {
	for ; s != nil; s = s.outer {
		if s.procedure == procedure {
			return true
		}
	}
	return false
}
