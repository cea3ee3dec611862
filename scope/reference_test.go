package scope_test

import (
	"cmp"
	"slices"
	"testing"

	"manorboy/api"
	"manorboy/scope"
	"manorboy/tree"
)

// A second reading of the chapter: each scope has the set of the numbers of all parts that are inside, and a part is a part of another one if its path begins with the other one's.

// named is a declaration.
type named struct {
	name  string
	place api.Place
}

// extent is a scope.
type extent struct {
	declared []named
	inside   map[int]bool
	owner    int // the number of the block or the procedure; -1 for the others
	isProc   bool
}

// reading is a statement, as it is read.
type reading struct {
	paths   [][]int
	parts   []api.Part
	extents []extent // an outer one ahead of the inner ones
	arounds map[int][]extent
}

func newReading(t *testing.T, s api.Stmt) *reading {
	t.Helper()
	r := &reading{arounds: map[int][]extent{}}
	paths, e := tree.Paths(s)
	wantOK(t, e)
	r.paths = paths
	for _, path := range paths {
		p, e := tree.At(s, path)
		wantOK(t, e)
		r.parts = append(r.parts, p)
	}
	r.addExtents()
	return r
}

// isPart reports whether the part with the number n is a part of the one with the number of.
func (r *reading) isPart(n, of int) bool {
	return len(r.paths[n]) >= len(r.paths[of]) && slices.Equal(r.paths[n][:len(r.paths[of])], r.paths[of])
}

// within returns the numbers of all parts of some parts.
func (r *reading) within(numbers ...int) map[int]bool {
	set := map[int]bool{}
	for n := range r.parts {
		for _, of := range numbers {
			if r.isPart(n, of) {
				set[n] = true
			}
		}
	}
	return set
}

// children returns the numbers of the children of a part that are of a kind.
func (r *reading) children(number, kind int) []int {
	var list []int
	for n := range r.parts {
		if r.isPart(n, number) && len(r.paths[n]) == len(r.paths[number])+1 && r.parts[n].Kind == kind {
			list = append(list, n)
		}
	}
	return list
}

// labels returns the declarations of the labels of statements.
func (r *reading) labels(numbers ...int) []named {
	var list []named
	for _, n := range numbers {
		for at, name := range r.parts[n].Stmt.Labels {
			list = append(list, named{name, api.Place{Kind: api.BiLabel, Node: n, At: at}})
		}
	}
	return list
}

func (r *reading) addList(numbers ...int) {
	r.extents = append(r.extents, extent{declared: r.labels(numbers...), inside: r.within(numbers...), owner: -1})
}

func (r *reading) addExtents() {
	all := extent{inside: r.within(0), owner: -1}
	for at, name := range scope.Standard() {
		all.declared = append(all.declared, named{name, api.Place{Kind: api.BiStandard, Node: -1, At: at}})
	}
	r.extents = []extent{all}
	r.addList(0)
	for n, p := range r.parts {
		body := r.children(n, api.PaStmt)
		switch {
		case p.Kind == api.PaStmt && p.Stmt.Kind == api.StList:
			r.addList(body...)
		case p.Kind == api.PaStmt && p.Stmt.Kind == api.StBlock:
			r.addBlock(n, body)
		case p.Kind == api.PaDecl && p.Decl.Kind == api.DeProc:
			formals := extent{inside: r.within(body...), owner: n, isProc: true}
			for at, f := range p.Decl.Formals {
				formals.declared = append(formals.declared, named{f.Name, api.Place{Kind: api.BiFormal, Node: n, At: at}})
			}
			r.extents = append(r.extents, formals)
			r.addList(body...)
		default:
			for _, each := range body {
				r.addList(each)
			}
		}
	}
}

func (r *reading) addBlock(number int, body []int) {
	decls := r.children(number, api.PaDecl)
	block := extent{inside: r.within(append(slices.Clone(decls), body...)...), owner: number}
	for _, n := range decls {
		d := r.parts[n].Decl
		for at, name := range d.Names {
			block.declared = append(block.declared, named{name, api.Place{Kind: d.Kind - api.DeVar + api.BiVar, Node: n, At: at}})
		}
		if d.Kind == api.DeArray {
			for bound := range r.within(r.children(n, api.PaExp)...) {
				delete(block.inside, bound)
			}
		}
	}
	block.declared = append(block.declared, r.labels(body...)...)
	r.extents = append(r.extents, block)
}

// around returns the scopes inside of which a part is, the innermost one first.
func (r *reading) around(number int) []extent {
	if list, done := r.arounds[number]; done {
		return list
	}
	var list []extent
	for _, x := range slices.Backward(r.extents) {
		if x.inside[number] {
			list = append(list, x)
		}
	}
	slices.SortStableFunc(list, func(a, b extent) int { return cmp.Compare(len(a.inside), len(b.inside)) })
	r.arounds[number] = list
	return list
}

func (x extent) find(name string) (api.Place, bool) {
	for _, d := range x.declared {
		if d.name == name {
			return d.place, true
		}
	}
	return api.Place{}, false
}

// lookup returns the zero place for what is unknown.
func (r *reading) lookup(number int, name string) api.Place {
	for _, x := range r.around(number) {
		if p, found := x.find(name); found {
			return p
		}
	}
	return api.Place{}
}

func (r *reading) visible(number int) []api.Place {
	var names []string
	for _, x := range r.around(number) {
		for _, d := range x.declared {
			names = append(names, d.name)
		}
	}
	slices.Sort(names)
	var list []api.Place
	for _, name := range slices.Compact(names) {
		list = append(list, r.lookup(number, name))
	}
	return list
}

func (r *reading) level(number int) int {
	count := 0
	for _, x := range r.around(number) {
		if x.owner >= 0 {
			count++
		}
	}
	return count
}

func (r *reading) enclosing(number int) int {
	for _, x := range r.around(number) {
		if x.isProc {
			return x.owner
		}
	}
	return -1
}

// occurrence returns the identifier of an occurrence, and how many subscripts or parameters it has.
func (r *reading) occurrence(number int) (name string, count int, is bool) {
	p := r.parts[number]
	switch {
	case p.Kind == api.PaStmt && p.Stmt.Kind == api.StCall:
		return p.Stmt.Text, len(p.Stmt.Exps), true
	case p.Kind == api.PaExp && (p.Exp.Kind == api.ExName || p.Exp.Kind == api.ExIndex || p.Exp.Kind == api.ExCall):
		return p.Exp.Text, len(p.Exp.Args), true
	}
	return "", 0, false
}

func (r *reading) uses() []api.Use {
	var list []api.Use
	for n := range r.parts {
		if name, _, is := r.occurrence(n); is {
			list = append(list, api.Use{Node: n, Name: name, Place: r.lookup(n, name)})
		}
	}
	return list
}

// declarations returns all declarations in the order of the places.
func (r *reading) declarations() []named {
	var list []named
	for _, x := range r.extents[1:] {
		list = append(list, x.declared...)
	}
	slices.SortFunc(list, func(a, b named) int {
		return cmp.Or(cmp.Compare(a.place.Node, b.place.Node), cmp.Compare(a.place.Kind, b.place.Kind), cmp.Compare(a.place.At, b.place.At))
	})
	return list
}

func (r *reading) free() []string {
	var list []string
	for _, u := range r.uses() {
		if u.Place.Kind <= api.BiStandard {
			list = append(list, u.Name)
		}
	}
	slices.Sort(list)
	return slices.Compact(list)
}

// position returns a letter for the position of an expression: value, target, goal, actual, choice.
func (r *reading) position(number int) byte {
	path := r.paths[number]
	parent, index := 0, path[len(path)-1]
	for n := range r.parts {
		if slices.Equal(r.paths[n], path[:len(path)-1]) {
			parent = n
		}
	}
	switch p := r.parts[parent]; p.Kind {
	case api.PaStmt:
		switch {
		case index < len(p.Stmt.Targets):
			return 't'
		case p.Stmt.Kind == api.StGoto:
			return 'g'
		case p.Stmt.Kind == api.StCall:
			return 'a'
		}
	case api.PaDecl:
		if p.Decl.Kind == api.DeSwitch {
			return 'g'
		}
	case api.PaExp:
		switch {
		case p.Exp.Kind == api.ExCall:
			return 'a'
		case p.Exp.Kind == api.ExIf && index > 0:
			if outer := r.position(parent); outer != 'a' {
				return outer
			}
			return 'c'
		}
	}
	return 'v'
}

// meant is what an occurrence denotes: a letter for its kind (v variable, a array, s switch, l label, p procedure, f function, o function in whose body the occurrence is, n formal parameter called by name), and how many subscripts or parameters it has (-1: any number).
type meant struct {
	kind  byte
	count int
}

func (r *reading) meant(number int, p api.Place) meant {
	switch p.Kind {
	case api.BiStandard:
		return []meant{{'p', 1}, {'p', 1}, {'p', 1}, {'p', 1}, {'f', 0}, {'f', 1}, {'f', 1}, {'f', 1}}[p.At]
	case api.BiLabel:
		return meant{'l', 0}
	case api.BiVar:
		return meant{'v', 0}
	case api.BiArray:
		return meant{'a', len(r.parts[p.Node].Decl.Exps) / 2}
	case api.BiSwitch:
		return meant{'s', 1}
	case api.BiFormal:
		f := r.parts[p.Node].Decl.Formals[p.At]
		switch {
		case !f.Value:
			return meant{'n', 0}
		case f.Spec == api.SpVar:
			return meant{'v', 0}
		default:
			return meant{'a', -1}
		}
	}
	d := r.parts[p.Node].Decl
	switch {
	case d.Type == api.TyNone:
		return meant{'p', len(d.Formals)}
	case r.isPart(number, r.children(p.Node, api.PaStmt)[0]):
		return meant{'o', len(d.Formals)}
	default:
		return meant{'f', len(d.Formals)}
	}
}

// isOneOf reports whether a letter is one of some letters.
func isOneOf(letter byte, letters string) bool { return slices.Contains([]byte(letters), letter) }

// isRight reports whether an occurrence is right by the table, if it denotes something.
func (r *reading) isRight(number int, m meant) bool {
	_, count, _ := r.occurrence(number)
	fits := m.count == count || m.count == -1
	if r.parts[number].Kind == api.PaStmt {
		return m.kind == 'n' || isOneOf(m.kind, "pfo") && fits
	}
	at := r.position(number)
	switch r.parts[number].Exp.Kind {
	case api.ExName:
		switch m.kind {
		case 'v':
			return at != 'g'
		case 'a', 's', 'p':
			return at == 'a'
		case 'l':
			return isOneOf(at, "gac")
		case 'f', 'o':
			return at == 'a' || at == 't' && m.kind == 'o' || isOneOf(at, "vc") && fits
		default:
			return true
		}
	case api.ExIndex:
		return m.kind == 'a' && at != 'g' && fits || m.kind == 's' && isOneOf(at, "gac") && fits || m.kind == 'n'
	default:
		return isOneOf(at, "vac") && (isOneOf(m.kind, "fo") && fits || m.kind == 'n')
	}
}

// judge returns the kind of the problem of an expression or a call; 0 if there is none.
func (r *reading) judge(number int) int {
	name, _, is := r.occurrence(number)
	if !is {
		at := r.position(number)
		switch r.parts[number].Exp.Kind {
		case api.ExIf:
			return 0
		case api.ExString:
			if at == 'a' {
				return 0
			}
		default:
			if isOneOf(at, "vac") {
				return 0
			}
		}
		return api.PrKind
	}
	if r.isBoundOf(number, name) {
		return api.PrBound
	}
	p := r.lookup(number, name)
	if p == (api.Place{}) {
		return api.PrUnknown
	}
	m := r.meant(number, p)
	if r.isRight(number, m) {
		return 0
	}
	for m.count = 0; m.count <= api.MaxPars; m.count++ {
		if r.isRight(number, m) {
			return api.PrCount
		}
	}
	return api.PrKind
}

// isBoundOf reports whether a part is in a bound of an array of a block that declares an identifier.
func (r *reading) isBoundOf(number int, name string) bool {
	for n, p := range r.parts {
		if p.Decl.Kind != api.DeArray || !r.within(r.children(n, api.PaExp)...)[number] {
			continue
		}
		for _, x := range r.extents {
			if !x.isProc && x.owner >= 0 && slices.Contains(r.children(x.owner, api.PaDecl), n) {
				_, found := x.find(name)
				return found
			}
		}
	}
	return false
}

func (r *reading) problems() []api.Problem {
	var list []api.Problem
	for _, x := range r.extents {
		for i, d := range x.declared {
			if slices.ContainsFunc(x.declared[:i], func(other named) bool { return other.name == d.name }) {
				list = append(list, api.Problem{Kind: api.PrTwice, Node: d.place.Node, Name: d.name})
			}
		}
	}
	for n, p := range r.parts {
		if name, _, is := r.occurrence(n); is || p.Kind == api.PaExp {
			if kind := r.judge(n); kind != 0 {
				list = append(list, api.Problem{Kind: kind, Node: n, Name: name})
			}
		}
	}
	slices.SortStableFunc(list, func(a, b api.Problem) int { return cmp.Compare(a.Node, b.Node) })
	return list
}

// numbersOf returns the numbers of the occurrences that denote what is declared at a place.
func (r *reading) numbersOf(p api.Place) []int {
	var list []int
	for _, u := range r.uses() {
		if u.Place == p {
			list = append(list, u.Node)
		}
	}
	return list
}
