package scope_test

import (
	"slices"
	"strings"
	"testing"

	"manorboy/api"
	"manorboy/scope"
	"manorboy/tree"
)

// copyOf returns a statement that can be changed.
func copyOf(t *testing.T, s api.Stmt) api.Stmt {
	t.Helper()
	other, e := tree.Copy(s)
	wantOK(t, e)
	return other
}

// change changes the part with a number in place.
func change(t *testing.T, s *api.Stmt, number int, f func(p *api.Part)) {
	t.Helper()
	paths, _ := tree.Paths(*s)
	p, e := tree.At(*s, paths[number])
	wantOK(t, e)
	f(&p)
	*s, e = tree.With(*s, paths[number], p)
	wantOK(t, e)
}

// rename gives another identifier to the declaration at a place, and to some occurrences.
func rename(t *testing.T, s *api.Stmt, place api.Place, occurrences []int, name string) {
	t.Helper()
	change(t, s, place.Node, func(p *api.Part) {
		switch place.Kind {
		case api.BiLabel:
			p.Stmt.Labels[place.At] = name
		case api.BiFormal:
			p.Decl.Formals[place.At].Name = name
		default:
			p.Decl.Names[place.At] = name
		}
	})
	for _, number := range occurrences {
		change(t, s, number, func(p *api.Part) {
			if p.Kind == api.PaStmt {
				p.Stmt.Text = name
			} else {
				p.Exp.Text = name
			}
		})
	}
}

// blockAround returns a block around a statement that declares variables.
func blockAround(s api.Stmt, names ...string) api.Stmt {
	return api.Stmt{Kind: api.StBlock, Decls: []api.Decl{{Kind: api.DeVar, Type: api.TyInt, Names: names}}, Body: []api.Stmt{s}}
}

// shifted returns a place whose part has a number that is greater by some amount; standard procedures and what is unknown stay.
func shifted(p api.Place, by int) api.Place {
	if p.Kind > api.BiStandard {
		p.Node += by
	}
	return p
}

func shiftedUses(list []api.Use, by int) []api.Use {
	var result []api.Use
	for _, u := range list {
		result = append(result, api.Use{Node: u.Node + by, Name: u.Name, Place: shifted(u.Place, by)})
	}
	return result
}

func shiftedProblems(list []api.Problem, by int) []api.Problem {
	var result []api.Problem
	for _, p := range list {
		result = append(result, api.Problem{Kind: p.Kind, Node: p.Node + by, Name: p.Name})
	}
	return result
}

// counter counts how often a test has found something to check.
type counter map[string]int

func (c counter) check(t *testing.T, least int, whats ...string) {
	t.Helper()
	for _, what := range whats {
		if c[what] < least {
			t.Errorf("only %d times: %s", c[what], what)
		}
	}
}

func TestPromise9Renaming(t *testing.T) {
	found := counter{}
	for _, s := range statements(10, 150) {
		before, wrong := uses(t, s), problems(t, s)
		r := newReading(t, s)
		for _, x := range r.extents[1:] {
			for _, d := range x.declared {
				count := 0
				for _, other := range x.declared {
					if other.name == d.name {
						count++
					}
				}
				if count > 1 {
					continue
				}
				found["renamed"]++
				occurrences := usesOf(t, s, d.place)
				other := copyOf(t, s)
				rename(t, &other, d.place, occurrences, "fresh")
				want := slices.Clone(before)
				for i, u := range want {
					if u.Place == d.place {
						want[i].Name = "fresh"
						found["occurrences"]++
					}
				}
				text, _ := tree.Print(other)
				if got := uses(t, other); !slices.Equal(got, want) {
					t.Errorf("%s: uses %s, not %s", text, showUses(got), showUses(want))
				}
				if slices.ContainsFunc(wrong, func(p api.Problem) bool { return p.Kind == api.PrBound && p.Name == d.name }) {
					found["bounds"]++
					continue
				}
				expected := slices.Clone(wrong)
				for i, p := range expected {
					if slices.Contains(occurrences, p.Node) && p.Kind != api.PrTwice {
						expected[i].Name = "fresh"
						found["problems"]++
					}
				}
				if got := problems(t, other); !slices.Equal(got, expected) {
					t.Errorf("%s: problems %s, not %s", text, showProblems(got), showProblems(expected))
				}
			}
		}
	}
	found.check(t, 50, "renamed", "occurrences", "bounds", "problems")
}

func TestPromise10Lookup(t *testing.T) {
	for _, s := range statements(11, 80) {
		text, _ := tree.Print(s)
		for _, u := range uses(t, s) {
			if got := lookup(t, s, u.Node, u.Name); got != u.Place {
				t.Errorf("%s: %v, but Lookup returns %v", text, u, got)
			}
		}
		names, _ := tree.Names(s)
		names = append(names, scope.Standard()...)
		slices.Sort(names)
		paths, _ := tree.Paths(s)
		for n := range paths {
			var want []api.Place
			for _, name := range slices.Compact(slices.Clone(names)) {
				if p := lookup(t, s, n, name); p != (api.Place{}) {
					want = append(want, p)
				}
			}
			if got := visible(t, s, n); !slices.Equal(got, want) {
				t.Errorf("%s: visible at %d are %s, not %s", text, n, showPlaces(got), showPlaces(want))
			}
		}
	}
}

func TestPromise11Parts(t *testing.T) {
	found := counter{}
	for _, s := range statements(12, 150) {
		text, _ := tree.Print(s)
		r := newReading(t, s)
		all := uses(t, s)
		for n, p := range r.parts {
			if p.Kind != api.PaStmt || len(p.Stmt.Labels) > 0 {
				continue
			}
			var got []api.Use
			for _, u := range all {
				if r.isPart(u.Node, n) {
					got = append(got, u)
				}
			}
			want := shiftedUses(uses(t, p.Stmt), n)
			for i, u := range want {
				if u.Place.Kind > api.BiStandard {
					found["declared in the part"]++
				} else {
					want[i].Place = lookup(t, s, n, u.Name)
					found["declared around it"]++
				}
			}
			if !slices.Equal(got, want) {
				t.Errorf("%s: uses in %d are %s, not %s", text, n, showUses(got), showUses(want))
			}
		}
	}
	found.check(t, 50, "declared in the part", "declared around it")
}

func TestPromise12Free(t *testing.T) {
	for _, s := range statements(13, 200) {
		text, _ := tree.Print(s)
		names := free(t, s)
		list := api.Stmt{Kind: api.StList, Body: []api.Stmt{s}}
		if got := free(t, list); !slices.Equal(got, names) {
			t.Errorf("%s: free in a compound statement are %v, not %v", text, got, names)
		}
		if len(names) == 0 {
			continue
		}
		block := blockAround(list, names...)
		if got := free(t, block); len(got) > 0 {
			t.Errorf("%s: free in a block are %v", text, got)
		}
		want := shiftedUses(uses(t, s), 3)
		for i, u := range want {
			if u.Place.Kind <= api.BiStandard {
				want[i].Place = api.Place{Kind: api.BiVar, Node: 1, At: slices.Index(names, u.Name)}
			}
		}
		if got := uses(t, block); !slices.Equal(got, want) {
			t.Errorf("%s: uses in a block are %s, not %s", text, showUses(got), showUses(want))
		}
	}
}

func TestPromise13Surroundings(t *testing.T) {
	found := counter{}
	for _, s := range statements(14, 200) {
		text, _ := tree.Print(s)
		names := free(t, s)
		for _, name := range append([]string{"unheard"}, pool...) {
			if slices.Contains(names, name) || slices.Contains(s.Labels, name) {
				continue
			}
			found["blocks"]++
			block := blockAround(s, name)
			if got, want := uses(t, block), shiftedUses(uses(t, s), 2); !slices.Equal(got, want) {
				t.Errorf("%s: with %s around, uses are %s, not %s", text, name, showUses(got), showUses(want))
			}
			if got, want := problems(t, block), shiftedProblems(problems(t, s), 2); !slices.Equal(got, want) {
				t.Errorf("%s: with %s around, problems are %s, not %s", text, name, showProblems(got), showProblems(want))
			}
		}
	}
	found.check(t, 500, "blocks")
}

func TestPromise14Places(t *testing.T) {
	for _, s := range statements(15, 200) {
		text, _ := tree.Print(s)
		declared := places(t, s)
		for at := range scope.Standard() {
			declared = append(declared, api.Place{Kind: api.BiStandard, Node: -1, At: at})
		}
		var got, want []int
		for _, p := range declared {
			got = append(got, usesOf(t, s, p)...)
		}
		for _, u := range uses(t, s) {
			want = append(want, u.Node)
			if u.Place == (api.Place{}) {
				got = append(got, u.Node)
			} else if name := nameOf(t, s, u.Place); name != u.Name {
				t.Errorf("%s: %v denotes what is named %s", text, u, name)
			}
		}
		slices.Sort(got)
		if !slices.Equal(got, want) {
			t.Errorf("%s: the uses of all places are %v, not %v", text, got, want)
		}
	}
}

func TestPromise15Levels(t *testing.T) {
	for _, s := range statements(16, 80) {
		text, _ := tree.Print(s)
		r := newReading(t, s)
		if level(t, s, 0) != 0 || enclosing(t, s, 0) != -1 {
			t.Errorf("%s: level %d, in the procedure %d", text, level(t, s, 0), enclosing(t, s, 0))
		}
		for n, p := range r.parts {
			levels, procedure := level(t, s, n), enclosing(t, s, n)
			switch {
			case p.Stmt.Kind == api.StBlock:
				levels++
			case p.Decl.Kind == api.DeProc:
				levels++
				procedure = n
			case p.Decl.Kind == api.DeArray:
				levels--
			}
			for kind := api.PaStmt; kind <= api.PaExp; kind++ {
				for _, child := range r.children(n, kind) {
					if got := level(t, s, child); got != levels {
						t.Errorf("%s: the level of %d is %d, not %d", text, child, got, levels)
					}
					if got := enclosing(t, s, child); got != procedure {
						t.Errorf("%s: the procedure around %d is %d, not %d", text, child, got, procedure)
					}
				}
			}
		}
	}
}

func TestPromise16Problems(t *testing.T) {
	found := counter{}
	for _, s := range statements(17, 200) {
		text, _ := tree.Print(s)
		list := problems(t, s)
		for _, u := range uses(t, s) {
			kinds := ""
			for _, p := range list {
				if p.Node == u.Node && p.Kind != api.PrTwice {
					kinds += string("-TUBKC"[p.Kind])
				}
			}
			isKnown := u.Place != (api.Place{})
			if len(kinds) > 1 || !isKnown && kinds != "U" && kinds != "B" || isKnown && kinds == "U" {
				t.Errorf("%s: %v has the problems %s", text, u, kinds)
			}
			if isKnown && strings.Contains(kinds, "B") {
				found["known in bounds"]++
			}
		}
		checkOnceMore(t, s, found)
	}
	found.check(t, 50, "known in bounds", "once more")
}

// checkOnceMore declares each identifier that the declarations of a block have once more, behind them.
func checkOnceMore(t *testing.T, s api.Stmt, found counter) {
	t.Helper()
	paths, _ := tree.Paths(s)
	for n, path := range paths {
		p, _ := tree.At(s, path)
		for i := range p.Stmt.Decls {
			name := p.Stmt.Decls[i].Names[0]
			other := copyOf(t, s)
			change(t, &other, n, func(p *api.Part) {
				p.Stmt.Decls = append(p.Stmt.Decls, api.Decl{Kind: api.DeSwitch, Names: []string{name}, Exps: []api.Exp{{Kind: api.ExInt}}})
			})
			found["once more"]++
			// The part that is added has the number at, and one child.
			at := n + len(pathsWithin(paths, path, len(p.Stmt.Targets)+len(p.Stmt.Exps)+len(p.Stmt.For)+len(p.Stmt.Decls)))
			want := slices.Clone(uses(t, s))
			for i, u := range want {
				if u.Node >= at {
					want[i].Node += 2
				}
				if u.Place.Node >= at {
					want[i].Place.Node += 2
				}
			}
			text, _ := tree.Print(other)
			if got := uses(t, other); !slices.Equal(got, want) {
				t.Errorf("%s: uses are %s, not %s", text, showUses(got), showUses(want))
			}
			if !slices.Contains(problems(t, other), api.Problem{Kind: api.PrTwice, Node: at, Name: name}) {
				t.Errorf("%s: %s is not twice at %d", text, name, at)
			}
		}
	}
}

// pathsWithin returns the paths of a part, and of those in it up to its child with an index, exclusive.
func pathsWithin(paths [][]int, path []int, index int) [][]int {
	var list [][]int
	for _, other := range paths {
		if len(other) >= len(path) && slices.Equal(other[:len(path)], path) && (len(other) == len(path) || other[len(path)] < index) {
			list = append(list, other)
		}
	}
	return list
}
