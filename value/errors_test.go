package value_test

import (
	"math"
	"testing"

	"manorboy/api"
	"manorboy/value"
)

// noTypes are no types of values, and noOperators no operators on two operands.
var (
	noTypes     = []int{api.TyNone, 4, -1, 1<<32 + 1, math.MinInt, math.MaxInt}
	noOperators = []int{0, api.OpNeg, api.OpNot, 19, -3, 1<<32 + 3, math.MinInt, math.MaxInt}
)

// TestPromises3To10Values hands what is no value to each function; ErrArg comes ahead of all other errors.
func TestPromises3To10Values(t *testing.T) {
	for _, v := range invalid {
		for kind := -1; kind <= 4; kind++ {
			if r := convert(kind, v); r != wrong(api.ErrArg) {
				t.Errorf("Convert(%d, %v) = %v", kind, v, r)
			}
			if s, e := value.Write(kind, v); s != "" || e != api.ErrArg {
				t.Errorf("Write(%d, %v) = %q, %d", kind, v, s, e)
			}
		}
		for op := -1; op <= 19; op++ {
			if r := one(op, v); r != wrong(api.ErrArg) {
				t.Errorf("One(%d, %v) = %v", op, v, r)
			}
			if r := call(op, v); r != wrong(api.ErrArg) {
				t.Errorf("Call(%d, %v) = %v", op, v, r)
			}
		}
		if n, e := value.Subscript(v); n != 0 || e != api.ErrArg {
			t.Errorf("Subscript(%v) = %d, %d", v, n, e)
		}
		if b, e := value.Truth(v); b || e != api.ErrArg {
			t.Errorf("Truth(%v) = %t, %d", v, b, e)
		}
		if s, e := value.Show(v); s != "" || e != api.ErrArg {
			t.Errorf("Show(%v) = %q, %d", v, s, e)
		}
		if x, e := value.Exp(v); !isNothing(x) || e != api.ErrArg {
			t.Errorf("Exp(%v) = %v, %d", v, x, e)
		}
	}
}

// TestPromises6To8Operands hands what is no value to the functions of several values, with any others beside it.
func TestPromises6To8Operands(t *testing.T) {
	others := append([]api.Value{whole(1), whole(0), of("1.5"), truth(true)}, invalid[0])
	for _, v := range invalid {
		for _, w := range others {
			for _, op := range append(operators(), noOperators...) {
				if two(op, v, w) != wrong(api.ErrArg) || two(op, w, v) != wrong(api.ErrArg) {
					t.Errorf("Two(%d) of %v and %v", op, v, w)
				}
			}
			if compare(v, w) != (order{0, api.ErrArg}) || compare(w, v) != (order{0, api.ErrArg}) {
				t.Errorf("Compare of %v and %v", v, w)
			}
			for _, l := range [][3]api.Value{{v, w, w}, {w, v, w}, {w, w, v}} {
				if b, e := value.Within(l[0], l[1], l[2]); b || e != api.ErrArg {
					t.Errorf("Within of %v = %t, %d", l, b, e)
				}
			}
		}
	}
}

// TestPromises3To10Numbers hands numbers that are no types, operators and functions to each function.
func TestPromises3To10Numbers(t *testing.T) {
	for _, v := range values {
		for _, kind := range noTypes {
			if r := convert(kind, v); r != wrong(api.ErrArg) {
				t.Errorf("Convert(%d, %v) = %v", kind, v, r)
			}
			if s, e := value.Write(kind, v); s != "" || e != api.ErrArg {
				t.Errorf("Write(%d, %v) = %q, %d", kind, v, s, e)
			}
		}
		for _, op := range []int{0, 3, 18, 19, -1, 1<<32 + 1, math.MinInt, math.MaxInt} {
			if r := one(op, v); r != wrong(api.ErrArg) {
				t.Errorf("One(%d, %v) = %v", op, v, r)
			}
		}
		for _, fn := range []int{0, 4, -1, 1<<32 + 1, math.MinInt, math.MaxInt} {
			if r := call(fn, v); r != wrong(api.ErrArg) {
				t.Errorf("Call(%d, %v) = %v", fn, v, r)
			}
		}
		for _, w := range values {
			for _, op := range noOperators {
				if r := two(op, v, w); r != wrong(api.ErrArg) {
					t.Errorf("Two(%d, %v, %v) = %v", op, v, w, r)
				}
			}
		}
	}
}
