package tree

import (
	"manorboy/api"
	"manorboy/integer"
	"manorboy/lex"
	"manorboy/real"
)

// The following functions put aside what a Kind has, so that what is left must be zero. Of the children they judge the number and the kinds alone.

func isValidExp(e api.Exp) bool {
	rest, fits := e, false
	rest.Kind = 0
	switch e.Kind {
	case api.ExInt:
		rest.N = 0
		fits = integer.Valid(e.N) && e.N >= 0
	case api.ExReal:
		rest.Real = api.Real{}
		fits = real.Valid(e.Real) && e.Real.Man >= 0
	case api.ExTrue, api.ExFalse:
		fits = true
	case api.ExString:
		rest.Text = ""
		fits = lex.Valid(api.Token{Kind: api.TkString, Text: e.Text})
	case api.ExName:
		rest.Text = ""
		fits = lex.IsName(e.Text)
	case api.ExIndex:
		rest.Text, rest.Args = "", nil
		fits = lex.IsName(e.Text) && has(e.Args, 1, api.MaxDims)
	case api.ExCall:
		rest.Text, rest.Args = "", nil
		fits = lex.IsName(e.Text) && has(e.Args, 1, api.MaxPars)
	case api.ExOne:
		rest.Op, rest.Args = 0, nil
		fits = isFrom(e.Op, api.OpNeg, api.OpNot) && len(e.Args) == 1
	case api.ExTwo:
		rest.Op, rest.Args = 0, nil
		fits = isFrom(e.Op, api.OpAdd, api.OpEqv) && len(e.Args) == 2
	case api.ExIf:
		rest.Args = nil
		fits = len(e.Args) == 3
	}
	return fits && isZeroExp(rest)
}

func isValidElem(f api.Elem) bool {
	switch f.Kind {
	case api.FeOnce:
		return len(f.Exps) == 1
	case api.FeStep:
		return len(f.Exps) == 3
	case api.FeWhile:
		return len(f.Exps) == 2
	}
	return false
}

func isValidStmt(s api.Stmt) bool {
	rest, fits := s, false
	rest.Kind, rest.Labels = 0, nil
	switch s.Kind {
	case api.StEmpty:
		fits = true
	case api.StAssign:
		rest.Targets, rest.Exps = nil, nil
		fits = areTargets(s.Targets) && len(s.Targets) >= 1 && len(s.Exps) == 1
	case api.StGoto:
		rest.Exps = nil
		fits = len(s.Exps) == 1
	case api.StIf:
		rest.Exps, rest.Body = nil, nil
		fits = len(s.Exps) == 1 && has(s.Body, 1, 2) && isClosed(s.Body[0])
	case api.StFor:
		rest.Targets, rest.For, rest.Body = nil, nil, nil
		fits = areTargets(s.Targets) && len(s.Targets) == 1 && len(s.For) >= 1 && len(s.Body) == 1
	case api.StCall:
		rest.Text, rest.Exps = "", nil
		fits = lex.IsName(s.Text) && has(s.Exps, 0, api.MaxPars)
	case api.StBlock:
		rest.Decls, rest.Body = nil, nil
		fits = len(s.Decls) >= 1 && len(s.Body) >= 1
	case api.StList:
		rest.Body = nil
		fits = len(s.Body) >= 1
	}
	return fits && areNames(s.Labels) && isZeroStmt(rest)
}

func isValidDecl(d api.Decl) bool {
	rest, fits := d, false
	rest.Kind, rest.Names = 0, nil
	switch d.Kind {
	case api.DeVar:
		rest.Own, rest.Type = false, 0
		fits = isFrom(d.Type, api.TyInt, api.TyBool) && len(d.Names) >= 1
	case api.DeArray:
		rest.Own, rest.Type, rest.Exps = false, 0, nil
		fits = isFrom(d.Type, api.TyInt, api.TyBool) && len(d.Names) >= 1 && has(d.Exps, 2, 2*api.MaxDims) && len(d.Exps)%2 == 0
	case api.DeSwitch:
		rest.Exps = nil
		fits = len(d.Names) == 1 && len(d.Exps) >= 1
	case api.DeProc:
		rest.Type, rest.Formals, rest.Body = 0, nil, nil
		fits = isFrom(d.Type, api.TyNone, api.TyBool) && len(d.Names) == 1 && areFormals(d.Formals) && len(d.Body) == 1
	}
	return fits && areNames(d.Names) && isZeroDecl(rest)
}

// areFormals reports whether formal parameters are valid, and not too many, with different names.
func areFormals(formals []api.Formal) bool {
	if len(formals) > api.MaxPars {
		return false
	}
	for i, f := range formals {
		if !isValidFormal(f) {
			return false
		}
		for _, other := range formals[:i] {
			if other.Name == f.Name {
				return false
			}
		}
	}
	return true
}

func isValidFormal(f api.Formal) bool {
	if !lex.IsName(f.Name) || f.Value && f.Type == api.TyNone {
		return false
	}
	switch f.Spec {
	case api.SpNone, api.SpLabel, api.SpSwitch, api.SpString:
		return f.Type == api.TyNone
	case api.SpVar:
		return isFrom(f.Type, api.TyInt, api.TyBool)
	case api.SpArray:
		return isFrom(f.Type, api.TyNone, api.TyBool)
	case api.SpProc:
		return isFrom(f.Type, api.TyNone, api.TyBool) && !f.Value
	}
	return false
}

// isClosed reports whether an else behind the statement cannot belong to something in it.
func isClosed(s api.Stmt) bool { return s.Kind != api.StIf && s.Kind != api.StFor }

func areTargets(list []api.Exp) bool {
	for _, e := range list {
		if e.Kind != api.ExName && e.Kind != api.ExIndex {
			return false
		}
	}
	return true
}

func areNames(list []string) bool {
	for _, name := range list {
		if !lex.IsName(name) {
			return false
		}
	}
	return true
}

func isFrom(n, least, most int) bool { return least <= n && n <= most }

func has[T any](list []T, least, most int) bool { return isFrom(len(list), least, most) }

func (n node) isValid() bool {
	switch {
	case n.stmt != nil:
		return isValidStmt(*n.stmt)
	case n.decl != nil:
		return isValidDecl(*n.decl)
	case n.elem != nil:
		return isValidElem(*n.elem)
	default:
		return isValidExp(*n.exp)
	}
}

// check returns the error of a part.
func (n node) check() api.Errno {
	if !n.isWithin() {
		return api.ErrLimit
	}
	for _, part := range n.parts() {
		if !part.isValid() {
			return api.ErrArg
		}
	}
	return api.OK
}
