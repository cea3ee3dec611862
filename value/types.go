package value

import "manorboy/api"

func isType(kind int) bool { return api.TyInt <= kind && kind <= api.TyBool }

func isNumber(kind int) bool { return kind == api.TyInt || kind == api.TyReal }

func areNumbers(a, b int) bool { return isNumber(a) && isNumber(b) }

// Result returns the type of the result of an operator: P7.11.
func Result(op int, a, b int) (int, api.Errno) {
	if op < api.OpNeg || op > api.OpEqv || !isType(a) {
		return api.TyNone, api.ErrArg
	}
	if op == api.OpNeg || op == api.OpNot {
		if b != api.TyNone {
			return api.TyNone, api.ErrArg
		}
		// What suits one operand suits two of the same type.
		b = a
	}
	if !isType(b) {
		return api.TyNone, api.ErrArg
	}
	if !suits(op, a, b) {
		return api.TyNone, api.ErrType
	}
	return typeOf(op, a, b), api.OK
}

// suits reports whether an operator has results for operands of two types.
func suits(op, a, b int) bool {
	switch op {
	case api.OpNot, api.OpAnd, api.OpOr, api.OpImp, api.OpEqv:
		return a == api.TyBool && b == api.TyBool
	case api.OpQuo:
		return a == api.TyInt && b == api.TyInt
	case api.OpPow:
		return isNumber(a) && b == api.TyInt
	}
	return areNumbers(a, b)
}

// typeOf needs types that suit the operator.
func typeOf(op, a, b int) int {
	switch op {
	case api.OpNeg, api.OpAdd, api.OpSub, api.OpMul:
		// The type of reals is the greater one.
		return max(a, b)
	case api.OpDiv:
		return api.TyReal
	case api.OpQuo:
		return api.TyInt
	case api.OpPow:
		if a == api.TyInt {
			return api.TyNone
		}
		return api.TyReal
	}
	return api.TyBool
}
