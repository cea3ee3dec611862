package value

import (
	"manorboy/api"
	"manorboy/integer"
	"manorboy/real"
)

// operand is a value of a type that an operator asks for. Its methods panic with the errors of layers 1 and 2: see guarded.
type operand api.Value

func ofInteger(n int) operand { return operand{Kind: api.TyInt, I: n} }

func ofReal(x api.Real) operand { return operand{Kind: api.TyReal, R: x} }

func ofTruth(b bool) operand { return operand{Kind: api.TyBool, B: b} }

// sure returns a result of layer 1 or 2. It panics if there is an error instead.
func sure[T any](x T, e api.Errno) T {
	if e != api.OK {
		panic(e)
	}
	return x
}

// guarded returns the result of an operation, or the error with which it panics.
func guarded(operation func() operand) (v api.Value, e api.Errno) {
	defer func() {
		if found, ok := recover().(api.Errno); ok {
			v, e = api.Value{}, found
		}
	}()
	return api.Value(operation()), api.OK
}

// operator returns an operator on two operands, which need types that suit it. Of its maps only the one that is needed is made, as small maps need no memory of their own.
func operator(op int) func(a, b operand) operand {
	if op <= api.OpPow {
		return map[int]func(a, b operand) operand{
			api.OpAdd: operand.plus,
			api.OpSub: operand.minus,
			api.OpMul: operand.times,
			api.OpDiv: operand.over,
			api.OpQuo: operand.quotient,
			api.OpPow: operand.power,
		}[op]
	}
	if op <= api.OpGt {
		return map[int]func(a, b operand) operand{
			api.OpLt: operand.isLess,
			api.OpLe: operand.isAtMost,
			api.OpEq: operand.isEqual,
			api.OpNe: operand.isOther,
			api.OpGe: operand.isAtLeast,
			api.OpGt: operand.isGreater,
		}[op]
	}
	return map[int]func(a, b operand) operand{
		api.OpAnd: operand.and,
		api.OpOr:  operand.or,
		api.OpImp: operand.implies,
		api.OpEqv: operand.isEquivalent,
	}[op]
}

func (a operand) isInteger() bool { return a.Kind == api.TyInt }

func (a operand) isZero() bool { return a == operand{Kind: a.Kind} }

// asReal returns the real of a number.
func (a operand) asReal() api.Real {
	if a.isInteger() {
		return real.FromInt(a.I)
	}
	return a.R
}

// changed returns the result of a function of integers, or the one of reals that belongs to it, for a number of either type.
func (a operand) changed(whole func(n int) (int, api.Errno), broken func(x api.Real) (api.Real, api.Errno)) operand {
	if a.isInteger() {
		return ofInteger(sure(whole(a.I)))
	}
	return ofReal(sure(broken(a.R)))
}

func (a operand) opposite() operand { return a.changed(integer.Neg, real.Neg) }

func (a operand) magnitude() operand { return a.changed(integer.Abs, real.Abs) }

func (a operand) entier() operand {
	if a.isInteger() {
		return a
	}
	return ofInteger(sure(real.Entier(a.R)))
}

func (a operand) sign() int {
	if a.isInteger() {
		return sure(integer.Sign(a.I))
	}
	return sure(real.Sign(a.R))
}

func (a operand) compare(b operand) int {
	if a.isInteger() && b.isInteger() {
		return sure(integer.Cmp(a.I, b.I))
	}
	return sure(real.Cmp(a.asReal(), b.asReal()))
}

// combined returns the result of a function of two integers, or the one of reals that belongs to it if one of the operands is a real.
func (a operand) combined(b operand, whole func(m, n int) (int, api.Errno), broken func(x, y api.Real) (api.Real, api.Errno)) operand {
	if a.isInteger() && b.isInteger() {
		return ofInteger(sure(whole(a.I, b.I)))
	}
	return ofReal(sure(broken(a.asReal(), b.asReal())))
}

func (a operand) plus(b operand) operand { return a.combined(b, integer.Add, real.Add) }

func (a operand) minus(b operand) operand { return a.combined(b, integer.Sub, real.Sub) }

func (a operand) times(b operand) operand { return a.combined(b, integer.Mul, real.Mul) }

func (a operand) over(b operand) operand { return ofReal(sure(real.Div(a.asReal(), b.asReal()))) }

func (a operand) quotient(b operand) operand { return ofInteger(sure(integer.Quo(a.I, b.I))) }

func (a operand) power(b operand) operand {
	if a.isZero() && b.I <= 0 {
		// Layer 2 has a power of 0 with the exponent 0.
		panic(api.ErrNone)
	}
	if a.isInteger() && b.I >= 0 {
		return ofInteger(sure(integer.Pow(a.I, b.I)))
	}
	return ofReal(sure(real.Pow(a.asReal(), b.I)))
}

func (a operand) isLess(b operand) operand { return ofTruth(a.compare(b) < 0) }

func (a operand) isAtMost(b operand) operand { return ofTruth(a.compare(b) <= 0) }

func (a operand) isEqual(b operand) operand { return ofTruth(a.compare(b) == 0) }

func (a operand) isOther(b operand) operand { return ofTruth(a.compare(b) != 0) }

func (a operand) isAtLeast(b operand) operand { return ofTruth(a.compare(b) >= 0) }

func (a operand) isGreater(b operand) operand { return ofTruth(a.compare(b) > 0) }

func (a operand) and(b operand) operand { return ofTruth(a.B && b.B) }

func (a operand) or(b operand) operand { return ofTruth(a.B || b.B) }

func (a operand) implies(b operand) operand { return ofTruth(!a.B || b.B) }

func (a operand) isEquivalent(b operand) operand { return ofTruth(a == b) }
