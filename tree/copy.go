package tree

import (
	"slices"

	"manorboy/api"
)

// copies returns a list of the copies of the elements of a list.
func copies[T any](list []T, copyOf func(T) T) []T {
	if list == nil {
		return nil
	}
	result := make([]T, len(list))
	for i, x := range list {
		result[i] = copyOf(x)
	}
	return result
}

func copyExp(e api.Exp) api.Exp {
	e.Args = copies(e.Args, copyExp)
	return e
}

func copyElem(f api.Elem) api.Elem {
	f.Exps = copies(f.Exps, copyExp)
	return f
}

func copyDecl(d api.Decl) api.Decl {
	d.Names = slices.Clone(d.Names)
	d.Exps = copies(d.Exps, copyExp)
	d.Formals = slices.Clone(d.Formals)
	d.Body = copies(d.Body, copyStmt)
	return d
}

func copyStmt(s api.Stmt) api.Stmt {
	s.Labels = slices.Clone(s.Labels)
	s.Targets = copies(s.Targets, copyExp)
	s.Exps = copies(s.Exps, copyExp)
	s.For = copies(s.For, copyElem)
	s.Decls = copies(s.Decls, copyDecl)
	s.Body = copies(s.Body, copyStmt)
	return s
}

func copyPart(p api.Part) api.Part {
	return api.Part{Kind: p.Kind, Stmt: copyStmt(p.Stmt), Decl: copyDecl(p.Decl), Elem: copyElem(p.Elem), Exp: copyExp(p.Exp)}
}

func sameExp(a, b api.Exp) bool {
	return a.Kind == b.Kind && a.Op == b.Op && a.N == b.N && a.Real == b.Real && a.Text == b.Text &&
		slices.EqualFunc(a.Args, b.Args, sameExp)
}

func sameElem(a, b api.Elem) bool {
	return a.Kind == b.Kind && slices.EqualFunc(a.Exps, b.Exps, sameExp)
}

func sameDecl(a, b api.Decl) bool {
	return a.Kind == b.Kind && a.Own == b.Own && a.Type == b.Type &&
		slices.Equal(a.Names, b.Names) && slices.EqualFunc(a.Exps, b.Exps, sameExp) &&
		slices.Equal(a.Formals, b.Formals) && slices.EqualFunc(a.Body, b.Body, sameStmt)
}

func sameStmt(a, b api.Stmt) bool {
	return a.Kind == b.Kind && a.Text == b.Text && slices.Equal(a.Labels, b.Labels) &&
		slices.EqualFunc(a.Targets, b.Targets, sameExp) && slices.EqualFunc(a.Exps, b.Exps, sameExp) &&
		slices.EqualFunc(a.For, b.For, sameElem) && slices.EqualFunc(a.Decls, b.Decls, sameDecl) &&
		slices.EqualFunc(a.Body, b.Body, sameStmt)
}

// The lists of what is zero are empty, so that the following functions do not look into those of their arguments, however large they are.

func isZeroExp(e api.Exp) bool   { return sameExp(e, api.Exp{}) }
func isZeroElem(f api.Elem) bool { return sameElem(f, api.Elem{}) }
func isZeroDecl(d api.Decl) bool { return sameDecl(d, api.Decl{}) }
func isZeroStmt(s api.Stmt) bool { return sameStmt(s, api.Stmt{}) }

// isPure reports whether a part of one of the four kinds has nothing but the field that belongs to its Kind.
func isPure(p api.Part) bool {
	rest := p
	partNode(&rest).put(api.Part{})
	return isZeroStmt(rest.Stmt) && isZeroDecl(rest.Decl) && isZeroElem(rest.Elem) && isZeroExp(rest.Exp)
}
