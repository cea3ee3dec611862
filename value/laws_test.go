package value_test

import (
	"math/big"
	"slices"
	"strings"
	"testing"

	"manorboy/api"
	"manorboy/integer"
	"manorboy/tree"
	"manorboy/value"
)

// then hands the value of a result on, or its error.
func then(r result, next func(v api.Value) result) result {
	if r.e != api.OK {
		return r
	}
	return next(r.v)
}

func zero(v api.Value) api.Value { return api.Value{Kind: v.Kind} }

func TestPromise13Algebra(t *testing.T) {
	list := slices.Concat(values, sample(60))
	for _, a := range list {
		neutral := right(a)
		if a.Kind == api.TyBool {
			neutral = wrong(api.ErrType)
		}
		if two(api.OpAdd, a, zero(a)) != neutral || two(api.OpAdd, zero(a), a) != neutral || two(api.OpSub, a, zero(a)) != neutral {
			t.Errorf("%v with the first value of its type", a)
		}
		if two(api.OpMul, a, whole(1)) != neutral || two(api.OpMul, whole(1), a) != neutral {
			t.Errorf("%v times 1", a)
		}
		for _, b := range list {
			if two(api.OpAdd, a, b) != two(api.OpAdd, b, a) || two(api.OpMul, a, b) != two(api.OpMul, b, a) {
				t.Errorf("the order of %v and %v matters", a, b)
			}
			opposite := then(one(api.OpNeg, b), func(c api.Value) result { return two(api.OpAdd, a, c) })
			if two(api.OpSub, a, b) != opposite {
				t.Errorf("%v - %v is not the sum with the opposite", a, b)
			}
		}
	}
}

func TestPromise14Logic(t *testing.T) {
	not := func(r result) result {
		return then(r, func(v api.Value) result { return one(api.OpNot, v) })
	}
	for _, a := range truths {
		if not(not(right(a))) != right(a) || not(right(a)) == right(a) {
			t.Errorf("not of %v", a)
		}
		for _, b := range truths {
			notA, notB := not(right(a)).v, not(right(b)).v
			if not(two(api.OpAnd, a, b)) != two(api.OpOr, notA, notB) || not(two(api.OpOr, a, b)) != two(api.OpAnd, notA, notB) {
				t.Errorf("%v and %v are not dual", a, b)
			}
			if two(api.OpImp, a, b) != two(api.OpOr, notA, b) {
				t.Errorf("%v imp %v", a, b)
			}
			if two(api.OpEqv, a, b) != two(api.OpAnd, two(api.OpImp, a, b).v, two(api.OpImp, b, a).v) {
				t.Errorf("%v eqv %v", a, b)
			}
		}
	}
}

func TestPromise15Order(t *testing.T) {
	list := slices.Concat(numbers, sample(40))
	is := func(op int, a, b api.Value) bool { return two(op, a, b) == right(truth(true)) }
	count := func(b ...bool) int {
		n := 0
		for _, x := range b {
			if x {
				n++
			}
		}
		return n
	}
	for _, a := range list {
		for _, b := range list {
			if count(is(api.OpLt, a, b), is(api.OpEq, a, b), is(api.OpGt, a, b)) != 1 {
				t.Errorf("the order of %v and %v", a, b)
			}
			if is(api.OpLt, a, b) == is(api.OpGe, a, b) || is(api.OpEq, a, b) == is(api.OpNe, a, b) || is(api.OpGt, a, b) == is(api.OpLe, a, b) {
				t.Errorf("the relations of %v and %v are no opposites", a, b)
			}
			if is(api.OpLt, a, b) != is(api.OpGt, b, a) || is(api.OpEq, a, b) != is(api.OpEq, b, a) {
				t.Errorf("the relations of %v and %v are not those of %v and %v", a, b, b, a)
			}
		}
	}
}

func TestPromise15Transitive(t *testing.T) {
	list := slices.Concat(numbers, sample(24))
	for _, a := range list {
		for _, b := range list {
			if compare(a, b).n > 0 {
				continue
			}
			for _, c := range list {
				if a.Kind == b.Kind && b.Kind == c.Kind && compare(b, c).n <= 0 && compare(a, c).n != min(compare(a, b).n, compare(b, c).n) {
					t.Errorf("%v, %v and %v", a, b, c)
				}
				if a.Kind == api.TyInt && b.Kind == api.TyInt && c.Kind == api.TyReal && compare(b, c).n <= 0 && compare(a, c).n > 0 {
					t.Errorf("%v is greater than %v", a, c)
				}
			}
		}
	}
}

func TestPromise16Conversion(t *testing.T) {
	list := slices.Concat(values, sample(60))
	for _, a := range list {
		if convert(a.Kind, a) != right(a) {
			t.Errorf("Convert changes %v", a)
		}
		for kind := api.TyInt; kind <= api.TyBool; kind++ {
			r := convert(kind, a)
			if r.e == api.OK && convert(kind, r.v) != r {
				t.Errorf("Convert(%d, %v) repeated", kind, a)
			}
			for _, b := range list {
				s := convert(kind, b)
				less := compare(a, b).n < 0 || compare(a, b).n == 0 && a.Kind == b.Kind
				if r.e == api.OK && s.e == api.OK && less && compare(r.v, s.v).n > 0 {
					t.Errorf("Convert(%d) changes the order of %v and %v", kind, a, b)
				}
			}
		}
	}
}

func TestPromise16Integers(t *testing.T) {
	for n := -1 << 24; n <= 1<<24; n += 1 + (n+1<<24)%977 {
		back := then(convert(api.TyReal, whole(n)), func(v api.Value) result { return convert(api.TyInt, v) })
		if back != right(whole(n)) {
			t.Errorf("%d comes back as %v", n, back)
		}
	}
	for _, x := range slices.Concat(reals, sample(2000)) {
		r := convert(api.TyInt, x)
		if r.e != api.OK {
			continue
		}
		distance := new(big.Rat).Sub(exact(r.v), exact(x))
		if distance.Abs(distance).Cmp(big.NewRat(1, 2)) > 0 {
			t.Errorf("the integer of %v is %v", x, r.v)
		}
	}
}

func TestPromise17Division(t *testing.T) {
	for _, a := range slices.Concat(integers, sample(80)) {
		for _, b := range slices.Concat(integers, sample(81)) {
			if a.Kind != api.TyInt || b.Kind != api.TyInt || b.I == 0 {
				continue
			}
			q := two(api.OpQuo, a, b)
			rest := a.I - q.v.I*b.I
			if q.e != api.OK || max(rest, -rest) >= max(b.I, -b.I) || rest != 0 && rest > 0 != (a.I > 0) {
				t.Errorf("%v // %v = %v", a, b, q)
			}
			opposite := right(whole(-q.v.I))
			if two(api.OpQuo, whole(-a.I), b) != opposite || two(api.OpQuo, a, whole(-b.I)) != opposite {
				t.Errorf("the signs of %v // %v", a, b)
			}
		}
	}
}

func TestPromise18Powers(t *testing.T) {
	for _, a := range slices.Concat(numbers, sample(60)) {
		isZero := a == zero(a)
		none := two(api.OpPow, a, whole(0))
		if isZero && none != wrong(api.ErrNone) || !isZero && compare(none.v, whole(1)) != (order{0, api.OK}) || !isZero && none.v.Kind != a.Kind {
			t.Errorf("%v ^ 0 = %v", a, none)
		}
		if two(api.OpPow, a, whole(1)) != right(a) {
			t.Errorf("%v ^ 1", a)
		}
		for n := range 70 {
			power := two(api.OpPow, a, whole(n))
			if a.Kind == api.TyInt && !(isZero && n == 0) {
				next := then(power, func(v api.Value) result { return two(api.OpMul, v, a) })
				if two(api.OpPow, a, whole(n+1)) != next {
					t.Errorf("%v ^ %d", a, n+1)
				}
			}
			if a.Kind == api.TyReal && n > 0 && power.e == api.OK && power.v != of("0.0") {
				if two(api.OpPow, a, whole(-n)) != two(api.OpDiv, whole(1), power.v) {
					t.Errorf("%v ^ %d", a, -n)
				}
			}
		}
	}
}

func TestPromise19Types(t *testing.T) {
	list := slices.Concat(values, sample(40))
	fits := func(r result, kind int, e api.Errno) bool {
		if e != api.OK || r.e == api.ErrType {
			return r == wrong(e)
		}
		return r.e != api.OK || kind == api.TyNone && r.v.Kind != api.TyBool || r.v.Kind == kind
	}
	for _, a := range list {
		for _, op := range []int{api.OpNeg, api.OpNot} {
			kind, e := value.Result(op, a.Kind, api.TyNone)
			if !fits(one(op, a), kind, e) {
				t.Errorf("One(%d, %v) is %v", op, a, one(op, a))
			}
		}
		for _, b := range list {
			for _, op := range operators() {
				kind, e := value.Result(op, a.Kind, b.Kind)
				if !fits(two(op, a, b), kind, e) {
					t.Errorf("Two(%d, %v, %v) is %v", op, a, b, two(op, a, b))
				}
			}
		}
	}
}

func TestPromise20Texts(t *testing.T) {
	shown := map[string]api.Value{}
	for _, v := range slices.Concat(values, sample(2000)) {
		text, e := value.Show(v)
		if e != api.OK || got(value.Read(text)) != right(v) {
			t.Errorf("Read does not undo Show of %v, %q", v, text)
		}
		if other, ok := shown[text]; ok && other != v {
			t.Errorf("%v and %v are %q", v, other, text)
		}
		shown[text] = v
		literal, e := value.Exp(v)
		if e != api.OK || got(value.Literal(literal)) != right(v) {
			t.Errorf("Literal does not undo Exp of %v", v)
		}
		printed, e := tree.PrintExp(literal)
		if e != api.OK || strings.ReplaceAll(printed, " ", "") != text {
			t.Errorf("%q is printed for %q", printed, text)
		}
	}
}

func TestPromise20Memory(t *testing.T) {
	a, _ := value.Exp(whole(-5))
	b, _ := value.Exp(whole(-5))
	a.Args[0].N = 7
	if b.Args[0].N != 5 || got(value.Literal(b)) != right(whole(-5)) {
		t.Error("two results share memory")
	}
}

// rounds returns how often a loop goes round, and the error that ends it.
func rounds(first, step, last int) (int, api.Errno) {
	v := whole(first)
	for n := 0; ; n++ {
		goes, e := value.Within(v, whole(step), whole(last))
		if e != api.OK || !goes {
			return n, e
		}
		next := two(api.OpAdd, v, whole(step))
		if next.e != api.OK {
			return n + 1, next.e
		}
		v = next.v
	}
}

func TestPromise21Loops(t *testing.T) {
	firsts := []int{-top, -top + 1, -top + 7, -10, -3, -1, 0, 1, 2, 5, 9, top - 20, top - 7, top - 1, top}
	steps := []int{-top, -1 << 30, -1000, -7, -3, -2, -1, 1, 2, 3, 7, 1000, 1 << 30, top}
	for _, first := range firsts {
		for _, last := range firsts {
			for _, step := range steps {
				trips, over, e := integer.Trips(first, step, last)
				if e != api.OK || trips > 1000 {
					continue
				}
				want := api.OK
				if over {
					want = api.ErrRange
				}
				if n, e := rounds(first, step, last); n != trips || e != want {
					t.Errorf("from %d step %d until %d: %d rounds, %d", first, step, last, n, e)
				}
			}
		}
	}
}

func TestPromise22StandardFunctions(t *testing.T) {
	for _, v := range slices.Concat(numbers, sample(2000)) {
		sign := call(api.FnSign, v)
		if two(api.OpMul, call(api.FnAbs, v).v, sign.v) != right(v) {
			t.Errorf("%v is not its abs times its sign", v)
		}
		if sign != right(whole(compare(v, zero(v)).n)) || sign != right(whole(compare(v, whole(0)).n)) {
			t.Errorf("sign(%v) = %v", v, sign)
		}
		entier := call(api.FnEntier, v)
		if v.Kind == api.TyInt && entier != right(v) {
			t.Errorf("entier(%v) = %v", v, entier)
		}
		if v.Kind == api.TyInt || entier.e != api.OK {
			continue
		}
		if compare(entier.v, v).n > 0 {
			t.Errorf("entier(%v) = %v", v, entier)
		}
		if n := entier.v.I; -1<<23 <= n && n <= 1<<23 && compare(v, whole(n+1)).n >= 0 {
			t.Errorf("entier(%v) = %v", v, entier)
		}
	}
}

func TestPromise23Valid(t *testing.T) {
	list := slices.Concat(values, sample(60))
	check := func(r result) {
		t.Helper()
		if r.e == api.OK != value.Valid(r.v) || r.e != api.OK && r.v != (api.Value{}) {
			t.Errorf("%v", r)
		}
	}
	for _, a := range list {
		for n := api.TyInt; n <= api.TyBool; n++ {
			check(got(value.Zero(n)))
			check(convert(n, a))
			check(call(n, a))
		}
		check(one(api.OpNeg, a))
		check(one(api.OpNot, a))
		for _, b := range list {
			for _, op := range operators() {
				check(two(op, a, b))
			}
		}
	}
}
