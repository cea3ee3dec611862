package integer

import (
	"slices"
	"strconv"
	"testing"

	"manorboy/api"
)

// chain applies f to a result and an integer; an error goes on.
func chain(f binary, x result, b int) result {
	if x.e != api.OK {
		return x
	}
	return of(f(x.n, b))
}

func TestPromise2Arithmetic(t *testing.T) {
	for _, a := range edges {
		for _, b := range edges {
			if of(Add(a, b)) != of(Add(b, a)) || of(Mul(a, b)) != of(Mul(b, a)) {
				t.Errorf("the order of %d and %d matters", a, b)
			}
			if sum := of(Add(a, b)); sum.e == api.OK && of(Sub(sum.n, b)) != (result{a, api.OK}) {
				t.Errorf("Sub does not undo Add of %d and %d", a, b)
			}
			for _, c := range edges {
				checkThree(t, a, b, c)
			}
		}
	}
}

func checkThree(t *testing.T, a, b, c int) {
	t.Helper()
	left, right := of(Add(a, b)), of(Add(b, c))
	if left.e == api.OK && right.e == api.OK && chain(Add, left, c) != chain(Add, right, a) {
		t.Errorf("the grouping of %d + %d + %d matters", a, b, c)
	}
	ab, ac := of(Mul(a, b)), of(Mul(a, c))
	if right.e != api.OK || ab.e != api.OK || ac.e != api.OK {
		return
	}
	if of(Mul(a, right.n)) != of(Add(ab.n, ac.n)) {
		t.Errorf("%d times (%d + %d) is not the sum of the products", a, b, c)
	}
}

func magnitude(n int) int { return max(n, -n) }

func TestPromise3Division(t *testing.T) {
	for _, a := range edges {
		for _, b := range edges {
			quotient, rest := of(Quo(a, b)), of(Rem(a, b))
			floor, mod := of(Floor(a, b)), of(Mod(a, b))
			if b == 0 {
				none := result{0, api.ErrNone}
				if quotient != none || rest != none || floor != none || mod != none {
					t.Errorf("%d divided by 0", a)
				}
				continue
			}
			if quotient.n*b+rest.n != a || magnitude(rest.n) >= magnitude(b) || rest.n != 0 && (rest.n < 0) != (a < 0) {
				t.Errorf("Quo and Rem of %d, %d: %v, %v", a, b, quotient, rest)
			}
			if rest.n != 0 && (rest.n < 0) != (b < 0) {
				quotient.n--
				rest.n += b
			}
			if floor != quotient || mod != rest {
				t.Errorf("Floor and Mod of %d, %d: %v, %v", a, b, floor, mod)
			}
		}
	}
}

func TestPromise4Powers(t *testing.T) {
	for _, a := range edges {
		for n := range 40 {
			power := of(Pow(a, n))
			if power.e == api.OK && n > 0 && !(a == 0 && n == 1) && of(Pow(a, n-1)).e != api.OK {
				t.Errorf("%d to the power of %d is valid, with %d it is not", a, n, n-1)
			}
			for m := range 40 {
				other := of(Pow(a, m))
				if power.e != api.OK || other.e != api.OK {
					continue
				}
				if of(Mul(power.n, other.n)) != of(Pow(a, n+m)) {
					t.Errorf("the powers of %d with %d and %d are multiplied wrongly", a, n, m)
				}
			}
		}
	}
	if got := of(Pow(0, 0)); got != (result{0, api.ErrNone}) {
		t.Errorf("Pow(0, 0) = %v", got)
	}
}

func TestPromise5Order(t *testing.T) {
	for _, a := range edges {
		for _, b := range edges {
			order := of(Cmp(a, b))
			if order.n != -of(Cmp(b, a)).n || (order.n == 0) != (a == b) || order.n < -1 || order.n > 1 {
				t.Errorf("Cmp of %d and %d: %v", a, b, order)
			}
			if d := of(Sub(a, b)); d.e == api.OK && of(Sign(d.n)) != order {
				t.Errorf("Cmp of %d and %d is not the sign of the difference", a, b)
			}
			for _, c := range edges {
				checkOrder(t, a, b, c, order.n)
			}
		}
	}
}

func checkOrder(t *testing.T, a, b, c, order int) {
	t.Helper()
	if order <= 0 && of(Cmp(b, c)).n <= 0 && of(Cmp(a, c)).n > 0 {
		t.Errorf("Cmp puts %d after %d and %d", a, b, c)
	}
	x, y := of(Add(a, c)), of(Add(b, c))
	if x.e == api.OK && y.e == api.OK && of(Cmp(x.n, y.n)).n != order {
		t.Errorf("%d on both sides of %d and %d changes Cmp", c, a, b)
	}
	x, y = of(Mul(a, c)), of(Mul(b, c))
	if c > 0 && x.e == api.OK && y.e == api.OK && of(Cmp(x.n, y.n)).n != order {
		t.Errorf("%d as a factor of %d and %d changes Cmp", c, a, b)
	}
}

func TestPromise6Texts(t *testing.T) {
	for _, n := range edges {
		text, e := Print(n)
		if got := of(Parse(text)); e != api.OK || got != (result{n, api.OK}) {
			t.Errorf("Parse(Print(%d)) = %v", n, got)
		}
	}
	for _, text := range []string{"0", "5", "-5", "+5", "-123", "0042", "-0", "21474836", "-21474836", "214748364", "-214748364", "2147483647", "-99"} {
		n := of(Parse(text))
		for digit := range 10 {
			away := digit
			if text[0] == '-' {
				away = -digit
			}
			want := chain(Add, chain(Mul, n, 10), away)
			if got := of(Parse(text + strconv.Itoa(digit))); got != want {
				t.Errorf("Parse(%s%d) = %v, not %v", text, digit, got, want)
			}
		}
	}
}

func TestPromise7Sums(t *testing.T) {
	lists := [][]int{nil, {1}, {-top}, {top, top, -top}, {top, 1}, {3, -4, 5, -46340}, {-top, top, 12}, {top - 1}, edges}
	for _, a := range lists {
		for _, b := range lists {
			whole := slices.Concat(a, b)
			x, y := of(Sum(a)), of(Sum(b))
			if x.e == api.OK && y.e == api.OK && of(Sum(whole)) != of(Add(x.n, y.n)) {
				t.Errorf("the sum of %v and %v is not that of the sums", a, b)
			}
			want := of(Sum(whole))
			slices.Sort(whole)
			sorted := of(Sum(whole))
			slices.Reverse(whole)
			if sorted != want || of(Sum(whole)) != want {
				t.Errorf("the sum of %v depends on the order", whole)
			}
		}
	}
}

func TestPromise11Loops(t *testing.T) {
	for _, first := range edges {
		for _, step := range edges {
			for _, last := range edges {
				checkLoop(t, first, step, last)
			}
		}
	}
}

func checkLoop(t *testing.T, first, step, last int) {
	t.Helper()
	n, over, e := Trips(first, step, last)
	if step == 0 {
		if n != 0 || over || e != api.ErrNone {
			t.Errorf("Trips(%d, 0, %d) = %d, %v, %d", first, last, n, over, e)
		}
		return
	}
	beyond := step > 0 && first > last || step < 0 && first < last
	if e != api.OK || n < 0 || (n == 0) != beyond {
		t.Errorf("Trips(%d, %d, %d) = %d, %v, %d", first, step, last, n, over, e)
		return
	}
	later := of(Add(first, step))
	if n == 0 {
		return
	}
	if later.e != api.OK {
		if n != 1 || !over {
			t.Errorf("Trips(%d, %d, %d) = %d, %v, though only the first term is valid", first, step, last, n, over)
		}
		return
	}
	m, same, e := Trips(later.n, step, last)
	if m != n-1 || same != over || e != api.OK {
		t.Errorf("Trips(%d, %d, %d) = %d, and one step later %d", first, step, last, n, m)
	}
}
