package real

import (
	"math/big"
	"slices"
	"strings"
	"testing"

	"manorboy/api"
)

func TestPromise10Order(t *testing.T) {
	list := slices.Concat(edges, sample(100))
	for _, x := range list {
		index := count(Index(x))
		if of(At(index.n)) != (result{x, api.OK}) {
			t.Errorf("At does not undo Index of %v", x)
		}
		next := of(Next(x))
		if x != greatest && (next.e != api.OK || count(Index(next.x)) != number{index.n + 1, api.OK} || rat(x).Cmp(rat(next.x)) >= 0) {
			t.Errorf("Next(%v) = %v", x, next)
		}
		for _, y := range list {
			order := count(Cmp(x, y))
			if order.n != big.NewInt(int64(index.n)).Cmp(big.NewInt(int64(mustIndex(y)))) {
				t.Errorf("Cmp(%v, %v) is not the order of their indices", x, y)
			}
		}
	}
}

func TestPromise10Indices(t *testing.T) {
	for _, start := range []int{-api.MaxIndex, -1<<24 - 500, -1<<23 - 500, -500, 1<<23 - 500, 1<<24 - 500, 128<<23 - 500, api.MaxIndex - 1000} {
		for index := start; index <= start+1000; index++ {
			x := of(At(index))
			if x.e != api.OK || !Valid(x.x) || x.x != made(index) || mustIndex(x.x) != index {
				t.Errorf("At(%d) = %v", index, x)
			}
		}
	}
}

// checkNearest compares the distances of a result and of its neighbours to the exact one.
func checkNearest(t *testing.T, x result, q *big.Rat) {
	t.Helper()
	if x.e != api.OK {
		return
	}
	distance := func(index int) *big.Rat {
		d := rat(made(index))
		return d.Abs(d.Sub(d, q))
	}
	index := mustIndex(x.x)
	for _, other := range []int{index - 1, index + 1} {
		if max(other, -other) <= api.MaxIndex && distance(other).Cmp(distance(index)) < 0 {
			t.Errorf("%v is nearer to %s than %v", made(other), q, x.x)
		}
	}
}

func TestPromise11Nearest(t *testing.T) {
	list := slices.Concat(edges, sample(2000))
	for i, x := range list {
		y := list[(i*7+1)%len(list)]
		a, b := rat(x), rat(y)
		checkNearest(t, of(Add(x, y)), new(big.Rat).Add(a, b))
		checkNearest(t, of(Sub(x, y)), new(big.Rat).Sub(a, b))
		checkNearest(t, of(Mul(x, y)), new(big.Rat).Mul(a, b))
		if y != zero {
			checkNearest(t, of(Div(x, y)), new(big.Rat).Quo(a, b))
		}
	}
}

func TestPromise11Exact(t *testing.T) {
	for a := -40; a <= 40; a++ {
		for b := -40; b <= 40; b++ {
			x, y := FromInt(a), FromInt(b)
			checkBinary(t, "Add", Add, x, y, result{FromInt(a + b), api.OK})
			checkBinary(t, "Sub", Sub, x, y, result{FromInt(a - b), api.OK})
			checkBinary(t, "Mul", Mul, x, y, result{FromInt(a * b), api.OK})
			if b != 0 {
				checkBinary(t, "Div", Div, FromInt(a*b), y, result{x, api.OK})
			}
		}
	}
}

// atMost reports whether x <= y, if neither has overflowed.
func atMost(x, y result) bool {
	return x.e != api.OK || y.e != api.OK || mustIndex(x.x) <= mustIndex(y.x)
}

func TestPromise12Monotonic(t *testing.T) {
	list := slices.Concat(edges, sample(60))
	slices.SortFunc(list, func(x, y api.Real) int { return mustIndex(x) - mustIndex(y) })
	for i, x := range list[:len(list)-1] {
		y := list[i+1]
		if x.Man >= 0 && !atMost(of(Sqrt(x)), of(Sqrt(y))) {
			t.Errorf("the roots of %v and %v", x, y)
		}
		for _, z := range list {
			if !atMost(of(Add(x, z)), of(Add(y, z))) || !atMost(of(Sub(z, y)), of(Sub(z, x))) {
				t.Errorf("sums of %v, %v with %v", x, y, z)
			}
			if z.Man >= 0 && !atMost(of(Mul(x, z)), of(Mul(y, z))) || z.Man > 0 && !atMost(of(Div(x, z)), of(Div(y, z))) {
				t.Errorf("products of %v, %v with %v", x, y, z)
			}
		}
	}
}

func opposed(x result) result { return result{negative(x.x), x.e} }

func TestPromise13Algebra(t *testing.T) {
	list := slices.Concat(edges, sample(60))
	for _, x := range list {
		same := result{x, api.OK}
		if of(Add(x, zero)) != same || of(Add(zero, x)) != same || of(Mul(x, two(0))) != same || of(Div(x, two(0))) != same {
			t.Errorf("%v with 0 or 1", x)
		}
		for _, y := range list {
			sum, product, difference := of(Add(x, y)), of(Mul(x, y)), of(Sub(x, y))
			if of(Add(y, x)) != sum || of(Mul(y, x)) != product {
				t.Errorf("the order of %v and %v matters", x, y)
			}
			if of(Add(negative(x), negative(y))) != opposed(sum) || of(Mul(negative(x), y)) != opposed(product) {
				t.Errorf("the signs of %v and %v matter", x, y)
			}
			if (difference == result{zero, api.OK}) != (x == y) {
				t.Errorf("%v - %v = %v", x, y, difference)
			}
			a, b := rat(x), rat(y)
			if b.Cmp(new(big.Rat).Mul(a, big.NewRat(2, 1))) <= 0 && a.Cmp(b.Mul(b, big.NewRat(2, 1))) <= 0 {
				if difference.e != api.OK || of(Add(difference.x, y)) != same {
					t.Errorf("%v - %v = %v is not exact", x, y, difference)
				}
			}
		}
	}
}

// TestPromise13Near takes differences of reals that are near to each other.
func TestPromise13Near(t *testing.T) {
	for _, base := range []int{1 << 20, 1 << 23, 1 << 24, 1<<24 + 1<<23, 128 << 23, 200<<23 + 12345, api.MaxIndex - 1<<24} {
		for step := 1; step < 1<<23; step = 3*step + 1 {
			x, y := made(base), made(base+step)
			exact := nearest(new(big.Rat).Sub(rat(y), rat(x)))
			difference := of(Sub(y, x))
			if 2*step <= base && difference != exact || difference.e != api.OK || rat(difference.x).Cmp(new(big.Rat).Sub(rat(y), rat(x))) != 0 {
				t.Errorf("%v - %v = %v", y, x, difference)
			}
		}
	}
}

func TestPromise14Powers(t *testing.T) {
	for _, x := range slices.Concat(edges, sample(200)) {
		square := of(Mul(x, x))
		if of(Pow(x, 1)) != (result{x, api.OK}) || of(Pow(x, 2)) != square {
			t.Errorf("the powers of %v", x)
		}
		for n := -9; n <= 9; n++ {
			want := of(Pow(x, n))
			if n%2 != 0 {
				want = opposed(want)
			}
			if got := of(Pow(negative(x), n)); got != want {
				t.Errorf("Pow(%v, %d) = %v, not %v", negative(x), n, got, want)
			}
		}
		if magnitude, _ := Abs(x); square.e == api.OK && rat(square.x).Cmp(power2(-100)) >= 0 && of(Sqrt(square.x)) != (result{magnitude, api.OK}) {
			t.Errorf("the root of the square of %v", x)
		}
	}
	for n := -150; n <= 173; n++ {
		if got := of(Pow(two(1), n)); got != (result{two(n), api.OK}) {
			t.Errorf("Pow(2, %d) = %v", n, got)
		}
	}
}

func TestPromise15Integers(t *testing.T) {
	for n := -1 << 24; n <= 1<<24; n += 1 + (n+1<<24)%977 {
		if got := count(Entier(FromInt(n))); got != (number{n, api.OK}) {
			t.Errorf("Entier(FromInt(%d)) = %v", n, got)
		}
	}
	half := big.NewRat(1, 2)
	for _, x := range slices.Concat(edges, sample(2000)) {
		entier, round := count(Entier(x)), count(Round(x))
		if entier.e != api.OK || round.e != api.OK {
			continue
		}
		fraction := new(big.Rat).Sub(rat(x), big.NewRat(int64(entier.n), 1))
		if fraction.Sign() < 0 || fraction.Cmp(big.NewRat(1, 1)) >= 0 {
			t.Errorf("Entier(%v) = %d", x, entier.n)
		}
		distance := new(big.Rat).Sub(rat(x), big.NewRat(int64(round.n), 1))
		if round.n != entier.n && round.n != entier.n+1 || distance.Abs(distance).Cmp(half) > 0 {
			t.Errorf("Round(%v) = %d, Entier is %d", x, round.n, entier.n)
		}
		if opposite := count(Round(negative(x))); fraction.Cmp(half) != 0 && opposite != (number{-round.n, api.OK}) {
			t.Errorf("Round of -(%v) = %v", x, opposite)
		}
	}
}

// significant returns the significant digits of a printed number, with the exponent that makes them the same magnitude.
func significant(text string) (digits string, exponent int) {
	mantissa, power, found := strings.Cut(strings.TrimPrefix(text, "-"), "e")
	if found {
		n, _ := new(big.Int).SetString(power, 10)
		exponent = int(n.Int64())
	}
	whole, fraction, _ := strings.Cut(mantissa, ".")
	digits = whole + fraction
	exponent -= len(fraction)
	for strings.HasSuffix(digits, "0") {
		digits, exponent = digits[:len(digits)-1], exponent+1
	}
	return strings.TrimLeft(digits, "0"), exponent
}

func TestPromise16Strings(t *testing.T) {
	for _, x := range slices.Concat(edges, sample(3000)) {
		text, e := Print(x)
		if got := of(Parse(text)); e != api.OK || got != (result{x, api.OK}) {
			t.Errorf("Parse(%q) = %v, not %v", text, got, x)
		}
		if x == zero {
			continue
		}
		digits, exponent := significant(text)
		if len(digits) > 9 {
			t.Errorf("%q has too many digits", text)
		}
		if len(digits) == 1 {
			// Without it there are no digits.
			continue
		}
		n, _ := new(big.Int).SetString(digits, 10)
		magnitude, _ := Abs(x)
		shorter := n.Quo(n, big.NewInt(10)).Int64()
		for _, m := range []int64{shorter, shorter + 1} {
			q := new(big.Rat).Mul(big.NewRat(m, 1), power10(exponent+1))
			if nearest(q) == (result{magnitude, api.OK}) {
				t.Errorf("%q is not the shortest string: %d with an exponent of %d", text, m, exponent+1)
			}
		}
	}
}
