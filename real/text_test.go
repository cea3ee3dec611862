package real

import (
	"math/big"
	"slices"
	"strconv"
	"strings"
	"testing"

	"manorboy/api"
)

func negative(x api.Real) api.Real { return api.Real{Man: -x.Man, Exp: x.Exp} }

func TestPromise8Parse(t *testing.T) {
	tenth := api.Real{Man: 13421773, Exp: -27}
	ten := api.Real{Man: 10 << 20, Exp: -20}
	for _, x := range []struct {
		text string
		want result
	}{
		{"0.1", result{tenth, api.OK}}, {"-0.1", result{negative(tenth), api.OK}}, {"1e-1", result{tenth, api.OK}},
		{"00.100e+00", result{tenth, api.OK}}, {"100.0e-003", result{tenth, api.OK}}, {"0.0001e3", result{tenth, api.OK}},
		{"10", result{ten, api.OK}}, {"10.0", result{ten, api.OK}}, {"1e1", result{ten, api.OK}}, {"1e+1", result{ten, api.OK}},
		{"-1e01", result{negative(ten), api.OK}}, {"0010", result{ten, api.OK}},
		{"0", result{zero, api.OK}}, {"-0", result{zero, api.OK}}, {"0.00", result{zero, api.OK}}, {"-0.0e5", result{zero, api.OK}},
		{"1e-60", result{zero, api.OK}}, {"1e60", result{zero, api.ErrRange}}, {"-1e60", result{zero, api.ErrRange}},
		{"0e99999999999999999999999999999999999999", result{zero, api.OK}},
		{"0.0e-99999999999999999999999999999999999999", result{zero, api.OK}},
		{"1e99999999999999999999999999999999999999999999999999999999", result{zero, api.ErrRange}},
		{"1e-9999999999999999999999999999999999999999999999999999999", result{zero, api.OK}},
		{"1e18446744073709551617", result{zero, api.ErrRange}}, {"1e-18446744073709551617", result{zero, api.OK}},
		{"1e4294967297", result{zero, api.ErrRange}}, {"1e-4294967297", result{zero, api.OK}},
		{"0." + strings.Repeat("0", 50) + "1e150", result{zero, api.ErrRange}}, {"1" + strings.Repeat("0", 50) + "e-150", result{zero, api.OK}},
		{"0." + strings.Repeat("0", 52) + "1e53", result{two(0), api.OK}},
		{"1" + strings.Repeat("0", 55) + "e-55", result{two(0), api.OK}},
		{"1e" + strings.Repeat("0", 57) + "1", result{ten, api.OK}},
	} {
		if got := of(Parse(x.text)); got != x.want {
			t.Errorf("Parse(%q) = %v, not %v", x.text, got, x.want)
		}
	}
}

func TestPromise8ErrForm(t *testing.T) {
	for _, text := range []string{
		"", "-", "+1", "--1", "- 1", " 1", "1 ", "1\n", "1.", ".1", "-.1", "1..1", "1.2.3", "1.e1", "e1", "-e1", ".e1",
		"1e", "1e+", "1e-", "1e+-1", "1e--1", "1e 1", "1e1.", "1e1.0", "1e1e1", "1E1", "1e1x", "x1", "1x", "1.x", "1.0x",
		"0x1", "1_0", "1,0", "1/", "1:", "inf", "nan", "1\x00", "\xff", "\u0661", "1e\u0661", "1.\u0661", "1-", "1.-1", "1.+1",
		strings.Repeat("1", 61), "0." + strings.Repeat("0", 59), "1e" + strings.Repeat("0", 59), strings.Repeat("x", 61),
		"1e99999999999999999999999999999999999999999999999999999999x", "1e-999999999x",
	} {
		if got := of(Parse(text)); got != (result{zero, api.ErrForm}) {
			t.Errorf("Parse(%q) = %v", text, got)
		}
	}
	for _, text := range []string{strings.Repeat("0", 60), "0." + strings.Repeat("0", 58), "0e" + strings.Repeat("0", 58)} {
		if got := of(Parse(text)); got != (result{zero, api.OK}) {
			t.Errorf("Parse(%q) = %v", text, got)
		}
	}
}

// written returns the exact number of a numeric string, with a small exponent.
func written(t *testing.T, text string) *big.Rat {
	t.Helper()
	q, ok := new(big.Rat).SetString(text)
	if !ok {
		t.Fatalf("%q is no number", text)
	}
	return q
}

// TestPromise8Rounded compares with exact numbers: decimal ones of all lengths and sizes.
func TestPromise8Rounded(t *testing.T) {
	patterns := []string{
		"1", "9", "35", "24999999999999999999999", "16777216999999999999999999999999999999999", "99999999999999999999999999999999999999999999999999999",
		"7006492321624085354618", "3503246160812042677309", "350324616081204267730", "23945242826029513411849172299223580994042798784118784",
		"239452428260295134118491722992235809", "239452421", "239452436", "1234567890123456789012345678901234567890123456789012345",
		"33554433", "335544330000000000000000000000000001", "33554432999999999999999999999", "16777217", "167772170000000001",
	}
	for _, digits := range patterns {
		for point := -70; point <= 70; point++ {
			text := digits + "e" + strconv.Itoa(point-len(digits))
			if len(text) > 60 {
				continue
			}
			want := nearest(written(t, text))
			if got := of(Parse(text)); got != want {
				t.Errorf("Parse(%q) = %v, not %v", text, got, want)
			}
			pointed := digits[:1] + "." + digits[1:] + "0e" + strconv.Itoa(point-1)
			if got := of(Parse(pointed)); len(pointed) <= 60 && got != want {
				t.Errorf("Parse(%q) = %v, not %v", pointed, got, want)
			}
		}
	}
}

// TestPromise8Halfway parses the numbers halfway between two reals, as far as they have few digits, and numbers that are very near to them.
func TestPromise8Halfway(t *testing.T) {
	for exp := -24; exp <= 150; exp++ {
		for _, man := range []int{1 << 23, 1<<23 + 1, 3 << 22, 1<<24 - 2, 1<<24 - 1} {
			checkHalfway(t, api.Real{Man: man, Exp: exp})
		}
	}
}

func checkHalfway(t *testing.T, x api.Real) {
	t.Helper()
	half := new(big.Rat).Mul(big.NewRat(int64(2*x.Man+1), 2), power2(x.Exp))
	places := max(0, 40-max(x.Exp, 0))
	for step := int64(-1); step <= 1; step++ {
		number := new(big.Rat).Add(half, new(big.Rat).Mul(big.NewRat(step, 1), power10(-places)))
		text := number.FloatString(places)
		if len(text) >= api.MaxReal {
			t.Fatalf("%q is too long", text)
		}
		if got, want := of(Parse(text)), nearest(number); got != want {
			t.Errorf("Parse(%q) = %v, not %v", text, got, want)
		}
		if got, want := of(Parse("-"+text)), nearest(number.Neg(number)); got != want {
			t.Errorf("Parse(-%q) = %v, not %v", text, got, want)
		}
	}
}

func mustIndex(x api.Real) int {
	index, _ := Index(x)
	return index
}

func TestPromise9Examples(t *testing.T) {
	for _, x := range []struct {
		x    api.Real
		text string
	}{
		{zero, "0.0"}, {two(0), "1.0"}, {negative(two(0)), "-1.0"}, {two(-1), "0.5"}, {two(-2), "0.25"},
		{api.Real{Man: 13421773, Exp: -27}, "0.1"}, {api.Real{Man: -13421773, Exp: -27}, "-0.1"},
		{api.Real{Man: 11184811, Exp: -25}, "0.33333334"}, {api.Real{Man: 8388608, Exp: 1}, "16777216.0"},
		{least, "7.0e-46"}, {negative(least), "-7.0e-46"}, {api.Real{Man: 2, Exp: -150}, "1.4e-45"},
		{api.Real{Man: 9765625, Exp: 10}, "1.0e10"},
		{greatest, "2.3945241e52"}, {two(173), "1.1972622e52"}, {two(-127), "5.877472e-39"},
	} {
		if got, e := Print(x.x); got != x.text || e != api.OK {
			t.Errorf("Print(%v) = %q, %d, not %q", x.x, got, e, x.text)
		}
	}
}

// TestPromise9Layout prints the rounded values of short strings, which are then the shortest ones.
func TestPromise9Layout(t *testing.T) {
	for _, x := range []struct{ text, want string }{
		{"0.0001", "0.0001"}, {"0.00012", "0.00012"}, {"0.00099", "0.00099"}, {"0.00001", "1.0e-5"}, {"0.000012", "1.2e-5"}, {"0.000099", "9.9e-5"},
		{"0.1", "0.1"}, {"0.01", "0.01"}, {"0.001", "0.001"}, {"0.00125", "0.00125"}, {"0.75", "0.75"},
		{"1", "1.0"}, {"9", "9.0"}, {"10", "10.0"}, {"12", "12.0"}, {"120", "120.0"}, {"1.5", "1.5"}, {"12.5", "12.5"}, {"1234.5", "1234.5"},
		{"10000000", "10000000.0"}, {"100000000", "100000000.0"}, {"999999900", "999999900.0"}, {"120000000", "120000000.0"},
		{"1000000000", "1.0e9"}, {"1200000000", "1.2e9"}, {"12345678e20", "1.2345678e27"}, {"1.25e-10", "1.25e-10"},
		{"-0.0001", "-0.0001"}, {"-0.00001", "-1.0e-5"}, {"-120", "-120.0"}, {"-1e30", "-1.0e30"}, {"9e-20", "9.0e-20"}, {"1e-46", "0.0"},
		{"1234567.8", "1234567.8"}, {"2097152.25", "2097152.2"}, {"2097152.75", "2097152.8"},
		{"33554448", "33554450.0"}, {"33554452", "33554452.0"}, {"33554468", "33554468.0"}, {"33554472", "33554470.0"},
	} {
		value, _ := Parse(x.text)
		if got, e := Print(value); got != x.want || e != api.OK {
			t.Errorf("Print of %s = %q, %d, not %q", x.text, got, e, x.want)
		}
	}
}

// candidates returns the digits and the k of the two numbers with n digits that are around q, which is from 10^(k-1) to 10^k, and the numbers themselves.
func candidates(q *big.Rat, k, n int) (texts [2]string, ks [2]int, numbers [2]*big.Rat) {
	unit := power10(k - n)
	scaled := new(big.Rat).Quo(q, unit)
	below := new(big.Int).Quo(scaled.Num(), scaled.Denom())
	for i := range 2 {
		digits := new(big.Int).Add(below, big.NewInt(int64(i)))
		numbers[i] = new(big.Rat).Mul(new(big.Rat).SetInt(digits), unit)
		texts[i], ks[i] = digits.String(), k+len(digits.String())-n
	}
	return texts, ks, numbers
}

func power10(n int) *big.Rat {
	p := new(big.Rat).SetInt(new(big.Int).Exp(big.NewInt(10), big.NewInt(int64(max(n, -n))), nil))
	if n < 0 {
		return p.Inv(p)
	}
	return p
}

// fewest returns the D and the k of a positive real, by trying all numbers of digits.
func fewest(x api.Real) (string, int) {
	q, k := rat(x), -60
	for q.Cmp(power10(k)) >= 0 {
		k++
	}
	for n := 1; ; n++ {
		texts, ks, numbers := candidates(q, k, n)
		down, up := nearest(numbers[0]) == result{x, api.OK}, nearest(numbers[1]) == result{x, api.OK}
		if down && up {
			above := numbers[1].Sub(numbers[1], q).Cmp(q.Sub(q, numbers[0]))
			odd := (texts[0][len(texts[0])-1]-'0')%2 == 1
			down = above > 0 || above == 0 && !odd
		}
		if down || up {
			choice := 1
			if down {
				choice = 0
			}
			return strings.TrimRight(texts[choice], "0"), ks[choice]
		}
	}
}

// laid lays out a number as the chapter says, by cases.
func laid(d string, k int) string {
	switch {
	case k < -3 || k > 9:
		rest := d[1:]
		if rest == "" {
			rest = "0"
		}
		return d[:1] + "." + rest + "e" + strconv.Itoa(k-1)
	case k < 1:
		return "0." + strings.Repeat("0", -k) + d
	case len(d) <= k:
		return d + strings.Repeat("0", k-len(d)) + ".0"
	}
	return d[:k] + "." + d[k:]
}

func checkPrint(t *testing.T, x api.Real) {
	t.Helper()
	magnitude, sign := x, ""
	if x.Man < 0 {
		magnitude, sign = negative(x), "-"
	}
	want := sign + laid(fewest(magnitude))
	if got, e := Print(x); got != want || e != api.OK {
		t.Errorf("Print(%v) = %q, %d, not %q", x, got, e, want)
	}
}

func TestPromise9Shortest(t *testing.T) {
	for _, x := range slices.Concat(edges, sample(3000)) {
		if x != zero {
			checkPrint(t, x)
		}
	}
	for n := -150; n <= 173; n++ {
		// At the powers of 2 the distance below is half of that above.
		checkPrint(t, two(n))
		checkPrint(t, made(mustIndex(two(n))+1))
		if n > -150 {
			checkPrint(t, made(mustIndex(two(n))-1))
		}
	}
	for man := 1; man <= 300; man++ {
		checkPrint(t, api.Real{Man: man, Exp: -150})
		// From 2^21 on, quarters are halfway between two numbers with one digit behind the point.
		checkPrint(t, api.Real{Man: 1<<23 + man, Exp: -2})
		// From 2^25 on, some numbers halfway between two reals have fewer digits than both.
		checkPrint(t, api.Real{Man: 1<<23 + man, Exp: 2})
		checkPrint(t, api.Real{Man: 1<<23 + man, Exp: 3})
		checkPrint(t, api.Real{Man: 1<<23 + man, Exp: -5})
	}
}
