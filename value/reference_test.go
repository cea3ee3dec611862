package value_test

import (
	"math/big"
	"slices"
	"testing"

	"manorboy/api"
	"manorboy/value"
)

// exact returns the number that a value is.
func exact(v api.Value) *big.Rat {
	if v.Kind == api.TyInt {
		return big.NewRat(int64(v.I), 1)
	}
	return scaled(big.NewRat(int64(v.R.Man), 1), v.R.Exp)
}

// scaled returns q * 2^n.
func scaled(q *big.Rat, n int) *big.Rat {
	power := new(big.Int).Lsh(big.NewInt(1), uint(max(n, -n)))
	if n < 0 {
		return new(big.Rat).SetFrac(q.Num(), power.Mul(power, q.Denom()))
	}
	return new(big.Rat).SetFrac(power.Mul(power, q.Num()), q.Denom())
}

// asInteger returns a number as an integer, if it is not too great.
func asInteger(n *big.Int) result {
	if n.CmpAbs(big.NewInt(top)) > 0 {
		return wrong(api.ErrRange)
	}
	return right(whole(int(n.Int64())))
}

// below returns the greatest integer that is at most q.
func below(q *big.Rat) *big.Int { return new(big.Int).Div(q.Num(), q.Denom()) }

// even returns the integer that is nearest to q; of two the even one.
func even(q *big.Rat) *big.Int {
	low := below(q)
	fraction := new(big.Rat).Sub(q, new(big.Rat).SetInt(low))
	if c := fraction.Cmp(big.NewRat(1, 2)); c > 0 || c == 0 && low.Bit(0) == 1 {
		low.Add(low, big.NewInt(1))
	}
	return low
}

// rounded returns the real that is nearest to q: the one with the least exponent for which the mantissa is not too long.
func rounded(q *big.Rat) result {
	length := q.Num().BitLen() - q.Denom().BitLen()
	for exp := max(api.MinExp, length-26); exp <= api.MaxExp; exp++ {
		man := even(scaled(q, -exp))
		if man.Sign() == 0 {
			return right(of("0.0"))
		}
		if man.BitLen() <= api.RealBits {
			return right(broken(api.Real{Man: int(man.Int64()), Exp: exp}))
		}
	}
	return wrong(api.ErrRange)
}

// ofReals returns what an operator does with the reals of two numbers.
func ofReals(op int, a, b api.Value) result {
	x, y := exact(rounded(exact(a)).v), exact(rounded(exact(b)).v)
	switch op {
	case api.OpAdd:
		return rounded(x.Add(x, y))
	case api.OpSub:
		return rounded(x.Sub(x, y))
	case api.OpMul:
		return rounded(x.Mul(x, y))
	}
	return rounded(x.Quo(x, y))
}

// ofIntegers returns what an operator does with two integers.
func ofIntegers(op int, a, b api.Value) result {
	m, n := big.NewInt(int64(a.I)), big.NewInt(int64(b.I))
	switch op {
	case api.OpAdd:
		return asInteger(m.Add(m, n))
	case api.OpSub:
		return asInteger(m.Sub(m, n))
	case api.OpMul:
		return asInteger(m.Mul(m, n))
	}
	return asInteger(m.Quo(m, n))
}

// raised returns a power, by multiplying.
func raised(a, b api.Value) result {
	if exact(a).Sign() == 0 && b.I <= 0 {
		return wrong(api.ErrNone)
	}
	if a.Kind == api.TyInt && b.I >= 0 {
		switch a.I {
		case 0, 1:
			return right(whole(1 - min(b.I, 1)*(1-a.I)))
		case -1:
			return right(whole(1 - b.I%2*2))
		}
		if b.I > 31 {
			return wrong(api.ErrRange)
		}
		return asInteger(new(big.Int).Exp(big.NewInt(int64(a.I)), big.NewInt(int64(b.I)), nil))
	}
	x := rounded(exact(a)).v
	if b.I >= 0 {
		return powerOfReal(x, b.I)
	}
	power := powerOfReal(x, -b.I)
	if power.e != api.OK {
		return power
	}
	if power.v == of("0.0") {
		return wrong(api.ErrRange)
	}
	return ofReals(api.OpDiv, whole(1), power.v)
}

func powerOfReal(x api.Value, n int) result {
	if n == 0 {
		return right(of("1.0"))
	}
	factor := x
	n--
	if n%2 == 1 {
		n = (n + 1) / 2
		half := powerOfReal(x, n)
		if half.e != api.OK {
			return half
		}
		return ofReals(api.OpMul, half.v, half.v)
	}
	rest := powerOfReal(x, n)
	if rest.e != api.OK {
		return rest
	}
	return ofReals(api.OpMul, factor, rest.v)
}

func related(op, order int) bool {
	switch op {
	case api.OpLt:
		return order < 0
	case api.OpLe:
		return order <= 0
	case api.OpEq:
		return order == 0
	case api.OpNe:
		return order != 0
	case api.OpGe:
		return order >= 0
	}
	return order > 0
}

func connected(op int, a, b bool) bool {
	switch op {
	case api.OpAnd:
		return a && b
	case api.OpOr:
		return a || b
	case api.OpImp:
		return !(a && !b)
	}
	return a && b || !a && !b
}

// compared is a second reading of Compare, for numbers.
func compared(a, b api.Value) int {
	if a.Kind != b.Kind {
		a, b = rounded(exact(a)).v, rounded(exact(b)).v
	}
	return exact(a).Cmp(exact(b))
}

// reference is a second reading of the chapter's table of operators, on exact numbers.
func reference(op int, a, b api.Value) result {
	truths, integers := 0, 0
	for _, v := range []api.Value{a, b} {
		if v.Kind == api.TyBool {
			truths++
		}
		if v.Kind == api.TyInt {
			integers++
		}
	}
	switch op {
	case api.OpAdd, api.OpSub, api.OpMul:
		if truths > 0 {
			return wrong(api.ErrType)
		}
		if integers == 2 {
			return ofIntegers(op, a, b)
		}
		return ofReals(op, a, b)
	case api.OpDiv:
		if truths > 0 {
			return wrong(api.ErrType)
		}
		if exact(b).Sign() == 0 {
			return wrong(api.ErrNone)
		}
		return ofReals(op, a, b)
	case api.OpQuo:
		if integers < 2 {
			return wrong(api.ErrType)
		}
		if b.I == 0 {
			return wrong(api.ErrNone)
		}
		return ofIntegers(op, a, b)
	case api.OpPow:
		if truths > 0 || b.Kind != api.TyInt {
			return wrong(api.ErrType)
		}
		return raised(a, b)
	case api.OpLt, api.OpLe, api.OpEq, api.OpNe, api.OpGe, api.OpGt:
		if truths > 0 {
			return wrong(api.ErrType)
		}
		return right(truth(related(op, compared(a, b))))
	}
	if truths < 2 {
		return wrong(api.ErrType)
	}
	return right(truth(connected(op, a.B, b.B)))
}

func TestPromise6Reference(t *testing.T) {
	for _, a := range slices.Concat(values, sample(40)) {
		for _, b := range slices.Concat(values, sample(41)) {
			for _, op := range operators() {
				if v, want := two(op, a, b), reference(op, a, b); v != want {
					t.Fatalf("Two(%d, %v, %v) = %v, not %v", op, a, b, v, want)
				}
			}
		}
	}
}

func TestPromises7And8Reference(t *testing.T) {
	list := slices.Concat(numbers, sample(20))
	for _, a := range list {
		for _, b := range list {
			want := compared(a, b)
			if c := compare(a, b); c != (order{want, api.OK}) {
				t.Errorf("Compare(%v, %v) = %v, not %d", a, b, c, want)
			}
			for _, step := range []string{"-2147483647", "-1", "0", "1", "-1.5", "-7.0e-46", "0.0", "7.0e-46", "1.0e50"} {
				goes := true
				switch exact(of(step)).Sign() {
				case 1:
					goes = want <= 0
				case -1:
					goes = want >= 0
				}
				if ok, e := value.Within(a, of(step), b); ok != goes || e != api.OK {
					t.Errorf("Within(%v, %s, %v) = %t, %d", a, step, b, ok, e)
				}
			}
		}
	}
}

func TestPromises3And9Reference(t *testing.T) {
	for _, v := range slices.Concat(numbers, sample(2000)) {
		x := exact(v)
		if r, want := convert(api.TyReal, v), rounded(x); r != want {
			t.Errorf("the real of %v is %v, not %v", v, r, want)
		}
		if r, want := call(api.FnEntier, v), asInteger(below(x)); r != want {
			t.Errorf("entier(%v) = %v, not %v", v, r, want)
		}
		if r, want := call(api.FnSign, v), right(whole(x.Sign())); r != want {
			t.Errorf("sign(%v) = %v, not %v", v, r, want)
		}
		if r := call(api.FnAbs, v); r.e != api.OK || r.v.Kind != v.Kind || exact(r.v).Cmp(new(big.Rat).Abs(x)) != 0 {
			t.Errorf("abs(%v) = %v", v, r)
		}
		if r, want := convert(api.TyInt, v), asInteger(below(x.Add(x, big.NewRat(1, 2)))); r != want {
			t.Errorf("the integer of %v is %v, not %v", v, r, want)
		}
	}
}
