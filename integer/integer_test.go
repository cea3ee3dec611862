package integer

import (
	"math"
	"math/big"
	"slices"
	"strings"
	"testing"

	"manorboy/api"
)

const top = api.MaxInt

// edges are valid integers: ordinary ones, and those near which something changes.
var edges = []int{
	-top, -top + 1, -1 << 30, -65536, -46341, -46340, -1000, -7, -3, -2, -1,
	0, 1, 2, 3, 7, 10, 1000, 46340, 46341, 65536, 1 << 30, top - 1, top,
}

var invalid = []int{top + 1, -top - 1, 1 << 40, math.MaxInt, math.MinInt}

type binary func(a, b int) (int, api.Errno)

type unary func(a int) (int, api.Errno)

type result struct {
	n int
	e api.Errno
}

func of(n int, e api.Errno) result { return result{n, e} }

// inRange is what a function returns whose exact result is n.
func inRange(n *big.Int) result {
	if n.CmpAbs(big.NewInt(top)) > 0 {
		return result{0, api.ErrRange}
	}
	return result{int(n.Int64()), api.OK}
}

// TestPromise1Examples goes through the chapter's table of examples, as far as it is about integers, and some more.
func TestPromise1Examples(t *testing.T) {
	for _, x := range []struct {
		name string
		f    binary
		a, b int
		want result
	}{
		{"Add", Add, 2147483646, 1, result{2147483647, api.OK}},
		{"Add", Add, 2147483647, 1, result{0, api.ErrRange}},
		{"Add", Add, 2147483648, 0, result{0, api.ErrArg}},
		{"Add", Add, -2147483647, -1, result{0, api.ErrRange}},
		{"Sub", Sub, 0, 2147483647, result{-2147483647, api.OK}},
		{"Sub", Sub, 2147483647, -1, result{0, api.ErrRange}},
		{"Mul", Mul, 46340, -46340, result{-2147395600, api.OK}},
		{"Mul", Mul, 46341, 46341, result{0, api.ErrRange}},
		{"Mul", Mul, 2147483647, -2147483647, result{0, api.ErrRange}},
		{"Quo", Quo, -7, 2, result{-3, api.OK}},
		{"Rem", Rem, -7, 2, result{-1, api.OK}},
		{"Floor", Floor, -7, 2, result{-4, api.OK}},
		{"Mod", Mod, -7, 2, result{1, api.OK}},
		{"Quo", Quo, 7, -2, result{-3, api.OK}},
		{"Rem", Rem, 7, -2, result{1, api.OK}},
		{"Floor", Floor, 7, -2, result{-4, api.OK}},
		{"Mod", Mod, 7, -2, result{-1, api.OK}},
		{"Floor", Floor, -6, -2, result{3, api.OK}},
		{"Mod", Mod, -6, 2, result{0, api.OK}},
		{"Quo", Quo, 7, 0, result{0, api.ErrNone}},
		{"Mod", Mod, 0, 0, result{0, api.ErrNone}},
		{"Pow", Pow, -2, 30, result{1073741824, api.OK}},
		{"Pow", Pow, -2, 31, result{0, api.ErrRange}},
		{"Pow", Pow, 2, 31, result{0, api.ErrRange}},
		{"Pow", Pow, -1, 2147483647, result{-1, api.OK}},
		{"Pow", Pow, -1, 2147483646, result{1, api.OK}},
		{"Pow", Pow, 1, 2147483647, result{1, api.OK}},
		{"Pow", Pow, 0, 2147483647, result{0, api.OK}},
		{"Pow", Pow, 2147483647, 2147483647, result{0, api.ErrRange}},
		{"Pow", Pow, 0, 0, result{0, api.ErrNone}},
		{"Pow", Pow, -5, 0, result{1, api.OK}},
		{"Pow", Pow, 0, -1, result{0, api.ErrArg}},
		{"Pow", Pow, 1, -1, result{0, api.ErrArg}},
		{"Cmp", Cmp, -2147483647, 2147483647, result{-1, api.OK}},
	} {
		if got := of(x.f(x.a, x.b)); got != x.want {
			t.Errorf("%s(%d, %d) = %v, not %v", x.name, x.a, x.b, got, x.want)
		}
	}
}

func TestPromise1Valid(t *testing.T) {
	for _, n := range edges {
		if !Valid(n) {
			t.Errorf("Valid(%d) is false", n)
		}
	}
	for _, n := range invalid {
		if Valid(n) {
			t.Errorf("Valid(%d) is true", n)
		}
	}
}

func TestPromise1OneOperand(t *testing.T) {
	for _, a := range edges {
		magnitude := a
		sign := 1
		if a < 0 {
			magnitude, sign = -a, -1
		} else if a == 0 {
			sign = 0
		}
		if got := of(Neg(a)); got != (result{-a, api.OK}) {
			t.Errorf("Neg(%d) = %v", a, got)
		}
		if got := of(Abs(a)); got != (result{magnitude, api.OK}) {
			t.Errorf("Abs(%d) = %v", a, got)
		}
		if got := of(Sign(a)); got != (result{sign, api.OK}) {
			t.Errorf("Sign(%d) = %v", a, got)
		}
	}
}

// TestPromise1TwoOperands compares with integers of any size.
func TestPromise1TwoOperands(t *testing.T) {
	for _, a := range edges {
		for _, b := range edges {
			x, y := big.NewInt(int64(a)), big.NewInt(int64(b))
			checkBinary(t, "Add", Add, a, b, inRange(new(big.Int).Add(x, y)))
			checkBinary(t, "Sub", Sub, a, b, inRange(new(big.Int).Sub(x, y)))
			checkBinary(t, "Mul", Mul, a, b, inRange(new(big.Int).Mul(x, y)))
			checkBinary(t, "Cmp", Cmp, a, b, result{x.Cmp(y), api.OK})
			if b == 0 {
				none := result{0, api.ErrNone}
				checkBinary(t, "Quo", Quo, a, b, none)
				checkBinary(t, "Rem", Rem, a, b, none)
				checkBinary(t, "Floor", Floor, a, b, none)
				checkBinary(t, "Mod", Mod, a, b, none)
				continue
			}
			quotient, rest := new(big.Int).QuoRem(x, y, new(big.Int))
			checkBinary(t, "Quo", Quo, a, b, inRange(quotient))
			checkBinary(t, "Rem", Rem, a, b, inRange(rest))
			if rest.Sign()*y.Sign() < 0 {
				quotient.Sub(quotient, big.NewInt(1))
				rest.Add(rest, y)
			}
			checkBinary(t, "Floor", Floor, a, b, inRange(quotient))
			checkBinary(t, "Mod", Mod, a, b, inRange(rest))
		}
	}
}

func checkBinary(t *testing.T, name string, f binary, a, b int, want result) {
	t.Helper()
	if got := of(f(a, b)); got != want {
		t.Errorf("%s(%d, %d) = %v, not %v", name, a, b, got, want)
	}
}

func TestPromise1Powers(t *testing.T) {
	for _, a := range edges {
		for n := range 70 {
			want := inRange(new(big.Int).Exp(big.NewInt(int64(a)), big.NewInt(int64(n)), nil))
			if a == 0 && n == 0 {
				want = result{0, api.ErrNone}
			}
			checkBinary(t, "Pow", Pow, a, n, want)
		}
		for _, n := range edges {
			if n < 0 {
				checkBinary(t, "Pow", Pow, a, n, result{0, api.ErrArg})
			}
		}
	}
}

func TestPromise1Sum(t *testing.T) {
	for _, x := range []struct {
		l    []int
		want result
	}{
		{nil, result{0, api.OK}},
		{[]int{}, result{0, api.OK}},
		{[]int{-5}, result{-5, api.OK}},
		{[]int{2147483647, 1, -1}, result{2147483647, api.OK}},
		{[]int{top, top, top, -top, -top, -top, 4}, result{4, api.OK}},
		{[]int{top, 1}, result{0, api.ErrRange}},
		{[]int{-top, -1}, result{0, api.ErrRange}},
		{[]int{top, top + 1}, result{0, api.ErrArg}},
		{[]int{top, top, -top - 1}, result{0, api.ErrArg}},
		{[]int{top + 1, -top - 1}, result{0, api.ErrArg}},
		{[]int{math.MaxInt, 1, math.MinInt}, result{0, api.ErrArg}},
		{slices.Repeat([]int{-top}, 1000), result{0, api.ErrRange}},
	} {
		if got := of(Sum(x.l)); got != x.want {
			t.Errorf("Sum(%v) = %v, not %v", x.l, got, x.want)
		}
	}
}

// TestPromise1SumArgument checks that the list is left as it is, also behind its end.
func TestPromise1SumArgument(t *testing.T) {
	whole := []int{3, 1, 2, 9}
	Sum(whole[:3])
	if !slices.Equal(whole, []int{3, 1, 2, 9}) {
		t.Errorf("Sum changes its argument: %v", whole)
	}
}

func TestPromise1Parse(t *testing.T) {
	zeros := strings.Repeat("0", 100000)
	nines := strings.Repeat("9", 100000)
	for _, x := range []struct {
		text string
		want result
	}{
		{"0", result{0, api.OK}}, {"-0", result{0, api.OK}}, {"+0", result{0, api.OK}},
		{"+007", result{7, api.OK}}, {"-15", result{-15, api.OK}}, {zeros + "8", result{8, api.OK}},
		{"2147483647", result{top, api.OK}}, {"-2147483647", result{-top, api.OK}},
		{"2147483648", result{0, api.ErrRange}}, {"-2147483648", result{0, api.ErrRange}},
		{"18446744073709551616", result{0, api.ErrRange}}, {"18446744073709551617", result{0, api.ErrRange}},
		{nines, result{0, api.ErrRange}}, {"-" + nines, result{0, api.ErrRange}},
		{"", result{0, api.ErrForm}}, {"+", result{0, api.ErrForm}}, {"-", result{0, api.ErrForm}},
		{"1 ", result{0, api.ErrForm}}, {" 1", result{0, api.ErrForm}}, {"1\n", result{0, api.ErrForm}},
		{"--1", result{0, api.ErrForm}}, {"+-1", result{0, api.ErrForm}}, {"1-", result{0, api.ErrForm}},
		{"- 1", result{0, api.ErrForm}}, {"1.0", result{0, api.ErrForm}}, {"0x1", result{0, api.ErrForm}},
		{"1_0", result{0, api.ErrForm}}, {"1/", result{0, api.ErrForm}}, {"1:", result{0, api.ErrForm}},
		{"\x00", result{0, api.ErrForm}}, {"\xff", result{0, api.ErrForm}}, {"\u0661", result{0, api.ErrForm}},
		{nines + "x", result{0, api.ErrForm}},
	} {
		if got := of(Parse(x.text)); got != x.want {
			t.Errorf("Parse(%.30q) = %v, not %v", x.text, got, x.want)
		}
	}
}

func TestPromise1Print(t *testing.T) {
	for n, want := range map[int]string{0: "0", -15: "-15", 100: "100", top: "2147483647", -top: "-2147483647"} {
		if got, e := Print(n); got != want || e != api.OK {
			t.Errorf("Print(%d) = %q, %d", n, got, e)
		}
	}
	for _, n := range invalid {
		if got, e := Print(n); got != "" || e != api.ErrArg {
			t.Errorf("Print(%d) = %q, %d", n, got, e)
		}
	}
}

// TestPromise1ErrArg checks that an invalid integer is the first error, whatever else is wrong.
func TestPromise1ErrArg(t *testing.T) {
	wrong := result{0, api.ErrArg}
	for _, bad := range invalid {
		for i, f := range []unary{Neg, Abs, Sign} {
			if got := of(f(bad)); got != wrong {
				t.Errorf("function %d of %d = %v", i, bad, got)
			}
		}
		for i, f := range []binary{Add, Sub, Mul, Quo, Rem, Floor, Mod, Pow, Cmp} {
			for _, other := range slices.Concat(edges, invalid) {
				if got := of(f(bad, other)); got != wrong {
					t.Errorf("function %d of %d, %d = %v", i, bad, other, got)
				}
				if got := of(f(other, bad)); got != wrong {
					t.Errorf("function %d of %d, %d = %v", i, other, bad, got)
				}
			}
		}
		for _, x := range [][3]int{{bad, 1, 5}, {1, bad, 5}, {1, 1, bad}, {bad, 0, 1}, {1, 0, bad}, {bad, -1, bad}} {
			if n, over, e := Trips(x[0], x[1], x[2]); n != 0 || over || e != api.ErrArg {
				t.Errorf("Trips(%v) = %d, %v, %d", x, n, over, e)
			}
		}
	}
}

func TestPromise1Trips(t *testing.T) {
	for _, x := range []struct {
		first, step, last, n int
		over                 bool
		e                    api.Errno
	}{
		{1, 2, 6, 3, false, api.OK},
		{1, 2, 5, 3, false, api.OK},
		{3, -1, 3, 1, false, api.OK},
		{2, 1, 1, 0, false, api.OK},
		{2, -1, 3, 0, false, api.OK},
		{10, -3, 1, 4, false, api.OK},
		{10, -3, 2, 3, false, api.OK},
		{2147483640, 5, 2147483647, 2, true, api.OK},
		{2147483640, 7, 2147483646, 1, false, api.OK},
		{-2147483640, -5, -2147483647, 2, true, api.OK},
		{top, 1, top, 1, true, api.OK},
		{-top, -1, -top, 1, true, api.OK},
		{top, 1, top - 1, 0, false, api.OK},
		{-top, 1, top, 4294967295, true, api.OK},
		{top, -1, -top, 4294967295, true, api.OK},
		{-top, top, top, 3, true, api.OK},
		{-top, top, top - 1, 2, false, api.OK},
		{5, 0, 9, 0, false, api.ErrNone},
		{9, 0, 5, 0, false, api.ErrNone},
		{5, 0, 5, 0, false, api.ErrNone},
	} {
		if n, over, e := Trips(x.first, x.step, x.last); n != x.n || over != x.over || e != x.e {
			t.Errorf("Trips(%d, %d, %d) = %d, %v, %d", x.first, x.step, x.last, n, over, e)
		}
	}
}

// count goes through the terms one after the other.
func count(first, step, last int) (int, bool) {
	n, term := 0, first
	for step > 0 && term <= last || step < 0 && term >= last {
		n++
		term += step
	}
	return n, !Valid(term)
}

func TestPromise1TripsCounted(t *testing.T) {
	for _, base := range []int{-top, -15, top - 30} {
		for first := base; first <= base+30; first++ {
			for last := base; last <= base+30; last++ {
				for _, step := range []int{-top, -31, -7, -2, -1, 1, 2, 3, 30, top} {
					many, beyond := count(first, step, last)
					if n, over, e := Trips(first, step, last); n != many || over != beyond || e != api.OK {
						t.Fatalf("Trips(%d, %d, %d) = %d, %v, %d, not %d, %v", first, step, last, n, over, e, many, beyond)
					}
				}
			}
		}
	}
}
