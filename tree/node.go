package tree

import (
	"iter"
	"slices"

	"manorboy/api"
)

// node is a part of a tree where it is: one of the pointers is not nil.
type node struct {
	stmt *api.Stmt
	decl *api.Decl
	elem *api.Elem
	exp  *api.Exp
}

func stmtNode(s *api.Stmt) node { return node{stmt: s} }
func declNode(d *api.Decl) node { return node{decl: d} }
func elemNode(f *api.Elem) node { return node{elem: f} }
func expNode(e *api.Exp) node   { return node{exp: e} }

// partNode returns the node of what a part of one of the four kinds holds.
func partNode(p *api.Part) node {
	switch p.Kind {
	case api.PaStmt:
		return stmtNode(&p.Stmt)
	case api.PaDecl:
		return declNode(&p.Decl)
	case api.PaElem:
		return elemNode(&p.Elem)
	default:
		return expNode(&p.Exp)
	}
}

// part returns what is there. It shares its lists.
func (n node) part() api.Part {
	switch {
	case n.stmt != nil:
		return api.Part{Kind: api.PaStmt, Stmt: *n.stmt}
	case n.decl != nil:
		return api.Part{Kind: api.PaDecl, Decl: *n.decl}
	case n.elem != nil:
		return api.Part{Kind: api.PaElem, Elem: *n.elem}
	default:
		return api.Part{Kind: api.PaExp, Exp: *n.exp}
	}
}

// put puts the field of p that is of the node's kind there.
func (n node) put(p api.Part) {
	switch {
	case n.stmt != nil:
		*n.stmt = p.Stmt
	case n.decl != nil:
		*n.decl = p.Decl
	case n.elem != nil:
		*n.elem = p.Elem
	default:
		*n.exp = p.Exp
	}
}

// each visits the elements of a list as nodes, and reports whether the visits go on.
func each[T any](list []T, nodeOf func(*T) node, visit func(node) bool) bool {
	for i := range list {
		if !visit(nodeOf(&list[i])) {
			return false
		}
	}
	return true
}

// visitChildren visits the children, whether or not the part's Kind uses them, and reports whether the visits go on.
func (n node) visitChildren(visit func(node) bool) bool {
	switch {
	case n.stmt != nil:
		s := n.stmt
		return each(s.Targets, expNode, visit) && each(s.Exps, expNode, visit) && each(s.For, elemNode, visit) &&
			each(s.Decls, declNode, visit) && each(s.Body, stmtNode, visit)
	case n.decl != nil:
		return each(n.decl.Exps, expNode, visit) && each(n.decl.Body, stmtNode, visit)
	case n.elem != nil:
		return each(n.elem.Exps, expNode, visit)
	default:
		return each(n.exp.Args, expNode, visit)
	}
}

// visitParts visits the part and all parts in it, each with its level, and reports whether the visits go on.
func (n node) visitParts(level int, visit func(int, node) bool) bool {
	return visit(level, n) && n.visitChildren(func(child node) bool { return child.visitParts(level+1, visit) })
}

// parts yields the part and all parts in it, in the order of their numbers, each with the length of its path. Nothing is looked at ahead of its turn, so that whoever stops at the limits need not fear trees without an end.
func (n node) parts() iter.Seq2[int, node] {
	return func(yield func(int, node) bool) { n.visitParts(0, yield) }
}

// paths yields the paths of the part and of all parts in it, in the order of their numbers. A path is overwritten by the next one.
func (n node) paths() iter.Seq[[]int] {
	return func(yield func([]int) bool) {
		var path []int
		for level := range n.parts() {
			if level > len(path) {
				path = append(path, 0)
			} else if level > 0 {
				path = path[:level]
				path[level-1]++
			}
			if !yield(path) {
				return
			}
		}
	}
}

// number returns the number of the part with a path.
func (n node) number(path []int) (number int, found bool) {
	for other := range n.paths() {
		if slices.Equal(other, path) {
			return number, true
		}
		number++
	}
	return 0, false
}

// child returns the child with an index.
func (n node) child(index int) (child node, found bool) {
	i := 0
	n.visitChildren(func(c node) bool {
		if i == index {
			child, found = c, true
		}
		i++
		return !found
	})
	return child, found
}

// find returns the part with a path.
func (n node) find(path []int) (place node, found bool) {
	place = n
	for _, index := range path {
		if place, found = place.child(index); !found {
			return node{}, false
		}
	}
	return place, true
}

// ownSize returns the size without the children.
func (n node) ownSize() int {
	switch {
	case n.stmt != nil:
		return 1 + len(n.stmt.Labels)
	case n.decl != nil:
		return 1 + len(n.decl.Names) + len(n.decl.Formals)
	default:
		return 1
	}
}

// measure returns the size and the depth of a part; 0 if it is not within the limits.
func (n node) measure() (size, depth int) {
	for level, part := range n.parts() {
		size += part.ownSize()
		depth = max(depth, level+1)
		if size > api.MaxNodes || depth > api.MaxNest {
			return 0, 0
		}
	}
	return size, depth
}

func (n node) isWithin() bool {
	size, _ := n.measure()
	return size > 0
}

// ownNames returns the identifiers that occur in a valid part, but not in its children.
func (n node) ownNames() []string {
	var names []string
	switch {
	case n.stmt != nil:
		names = slices.Clone(n.stmt.Labels)
		if n.stmt.Kind == api.StCall {
			names = append(names, n.stmt.Text)
		}
	case n.decl != nil:
		names = append(slices.Clone(n.decl.Names), formalNames(n.decl.Formals)...)
	case n.exp != nil:
		switch n.exp.Kind {
		case api.ExName, api.ExIndex, api.ExCall:
			names = append(names, n.exp.Text)
		}
	}
	return names
}

// names returns the different identifiers that occur in a valid part, in ascending order.
func (n node) names() []string {
	var names []string
	for _, part := range n.parts() {
		names = append(names, part.ownNames()...)
	}
	slices.Sort(names)
	return slices.Compact(names)
}

func formalNames(formals []api.Formal) []string {
	var names []string
	for _, f := range formals {
		names = append(names, f.Name)
	}
	return names
}
