package value

import (
	"strconv"

	"manorboy/api"
	"manorboy/integer"
	"manorboy/real"
	"manorboy/tree"
)

// Literal returns the value of a literal: P7.2.
func Literal(e api.Exp) (api.Value, api.Errno) {
	if tree.CheckExp(e) != api.OK {
		return api.Value{}, api.ErrArg
	}
	if e.Kind == api.ExOne && e.Op == api.OpNeg && isNumeral(e.Args[0]) {
		return One(api.OpNeg, unsigned(e.Args[0]))
	}
	if v := unsigned(e); v.Kind != api.TyNone {
		return v, api.OK
	}
	return api.Value{}, api.ErrKind
}

func isNumeral(e api.Exp) bool { return e.Kind == api.ExInt || e.Kind == api.ExReal }

// unsigned returns the value of a literal without a sign; one of no type, of another expression.
func unsigned(e api.Exp) api.Value {
	switch e.Kind {
	case api.ExInt:
		return api.Value{Kind: api.TyInt, I: e.N}
	case api.ExReal:
		return api.Value{Kind: api.TyReal, R: e.Real}
	case api.ExTrue, api.ExFalse:
		return api.Value{Kind: api.TyBool, B: e.Kind == api.ExTrue}
	}
	return api.Value{}
}

// Exp returns an expression with literals that has a value: P7.2.
func Exp(v api.Value) (api.Exp, api.Errno) {
	if !Valid(v) {
		return api.Exp{}, api.ErrArg
	}
	if isNumber(v.Kind) && operand(v).sign() < 0 {
		magnitude := api.Value(operand(v).magnitude())
		return api.Exp{Kind: api.ExOne, Op: api.OpNeg, Args: []api.Exp{literal(magnitude)}}, api.OK
	}
	return literal(v), api.OK
}

// literal returns the expression without a sign that has a value, which is not below 0.
func literal(v api.Value) api.Exp {
	switch v.Kind {
	case api.TyInt:
		return api.Exp{Kind: api.ExInt, N: v.I}
	case api.TyReal:
		return api.Exp{Kind: api.ExReal, Real: v.R}
	}
	if v.B {
		return api.Exp{Kind: api.ExTrue}
	}
	return api.Exp{Kind: api.ExFalse}
}

// Show returns the text of a value: P7.10.
func Show(v api.Value) (string, api.Errno) {
	if !Valid(v) {
		return "", api.ErrArg
	}
	switch v.Kind {
	case api.TyInt:
		return integer.Print(v.I)
	case api.TyReal:
		return real.Print(v.R)
	}
	return strconv.FormatBool(v.B), api.OK
}

// Read returns the value that a text shows: P7.10.
func Read(text string) (api.Value, api.Errno) {
	// If the text is that of a number of one of the types, this is the number; other texts are sorted out below.
	n, _ := integer.Parse(text)
	x, _ := real.Parse(text)
	for _, candidate := range []operand{ofInteger(n), ofReal(x), ofTruth(false), ofTruth(true)} {
		v := api.Value(candidate)
		if shown, _ := Show(v); shown == text {
			return v, api.OK
		}
	}
	return api.Value{}, api.ErrForm
}

// Write returns what an output procedure for values of a type writes: P7.10.
func Write(kind int, v api.Value) (string, api.Errno) {
	converted, e := Convert(kind, v)
	if e != api.OK {
		return "", e
	}
	text, e := Show(converted)
	return text + "\n", e
}
