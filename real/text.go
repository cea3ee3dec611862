package real

import (
	"iter"
	"strconv"
	"strings"

	"manorboy/api"
)

// numeral is what a numeric string says: a number with these digits, times 10^scale. The digits do not begin with 0.
type numeral struct {
	negative bool
	digits   string
	scale    int
}

// cutDigits splits s behind the digits at its start.
func cutDigits(s string) (digits, rest string) {
	rest = strings.TrimLeft(s, "0123456789")
	return s[:len(s)-len(rest)], rest
}

// read returns the parts of a numeric string.
func read(s string) (n numeral, ok bool) {
	if len(s) > api.MaxReal {
		return numeral{}, false
	}
	s, negative := strings.CutPrefix(s, "-")
	digits, s := cutDigits(s)
	ok = digits != ""
	scale := 0
	if after, found := strings.CutPrefix(s, "."); found {
		fraction, rest := cutDigits(after)
		ok = ok && fraction != ""
		digits, scale, s = digits+fraction, -len(fraction), rest
	}
	if after, found := strings.CutPrefix(s, "e"); found {
		exponent, numeric := readExponent(after)
		return numeral{negative, strings.TrimLeft(digits, "0"), scale + exponent}, ok && numeric
	}
	return numeral{negative, strings.TrimLeft(digits, "0"), scale}, ok && s == ""
}

// readExponent returns the exponent of a numeric string, or one that is just as good.
func readExponent(s string) (exponent int, ok bool) {
	digits, negative := strings.CutPrefix(s, "-")
	if !negative {
		digits = strings.TrimPrefix(s, "+")
	}
	if known, rest := cutDigits(digits); known == "" || rest != "" {
		return 0, false
	}
	for _, digit := range []byte(digits) {
		// A larger one does not fit into an int, but makes no difference, as no string has as many digits.
		exponent = min(10*exponent+int(digit-'0'), 10000)
	}
	if negative {
		return -exponent, true
	}
	return exponent, true
}

// lowest and highest are bounds: what is less than 10^lowest is rounded to 0, what is at least 10^highest has no rounded value.
const (
	lowest  = -46
	highest = 53
)

// rounded returns the rounded value of n. It panics if there is none.
func (n numeral) rounded() api.Real {
	point := len(n.digits) + n.scale
	if n.digits == "" || point <= lowest {
		return api.Real{}
	}
	if point > highest {
		panic(api.ErrRange)
	}
	above, below := natural{}, natural{1}
	for _, digit := range []byte(n.digits) {
		above = above.times(10).plus(natural{uint64(digit - '0')})
	}
	if n.scale >= 0 {
		above = above.timesPower(n.scale)
	} else {
		below = below.timesPower(-n.scale)
	}
	x := ratio(above, below)
	x.negative = n.negative
	return x.rounded()
}

// Parse returns the rounded value of a numeric string: P2.8.
func Parse(s string) (api.Real, api.Errno) {
	n, ok := read(s)
	if !ok {
		return api.Real{}, api.ErrForm
	}
	return guarded(n.rounded)
}

// decimal is a magnitude as a fraction of size: its numerator num, and those of the halves of the distances to the next reals below and above it. The number is the fraction times 10^point.
type decimal struct {
	num, below, above, size natural
	point                   int
}

// decimalOf returns the magnitude of an x that is not 0, with a fraction that is from 1/10 to 1, without 1.
func decimalOf(x api.Real) decimal {
	man := uint64(max(x.Man, -x.Man))
	// All is counted in quarters, as a distance at a power of 2 may be half of a unit.
	d := decimal{num: natural{4 * man}, below: natural{2}, above: natural{2}, size: natural{4}}
	if man == unit && x.Exp > api.MinExp {
		d.below = natural{1}
	}
	if x.Exp >= 0 {
		d.num, d.below, d.above = d.num.shifted(x.Exp), d.below.shifted(x.Exp), d.above.shifted(x.Exp)
	} else {
		d.size = d.size.shifted(-x.Exp)
	}
	for d.num.compare(d.size) >= 0 {
		d.size = d.size.times(10)
		d.point++
	}
	for d.num.times(10).compare(d.size) < 0 {
		d.num, d.below, d.above = d.num.times(10), d.below.times(10), d.above.times(10)
		d.point--
	}
	return d
}

// digits yields the digits behind the point of the fraction num / size, each with the numerator of what is left behind it, in units of that digit. They do not end.
func digits(num, size natural) iter.Seq2[int, natural] {
	return func(yield func(int, natural) bool) {
		for {
			num = num.times(10)
			digit := 0
			for num.compare(size) >= 0 {
				num = num.minus(size)
				digit++
			}
			if !yield(digit, num) {
				return
			}
		}
	}
}

// shortest returns the digits D and the integer k of P2.9, for an x that is not 0. In each place, the number may be cut off (down), or the last digit increased (up), if x is the rounded value of what is then there; there is such a place, at the latest where the unit of the last digit is less than the distances to the next reals.
func shortest(x api.Real) (text string, k int) {
	d := decimalOf(x)
	// The number halfway between two reals is rounded to the even one.
	even := x.Man%2 == 0
	for digit, rest := range digits(d.num, d.size) {
		d.below, d.above = d.below.times(10), d.above.times(10)
		lower, upper := rest.compare(d.below), rest.plus(d.above).compare(d.size)
		down, up := lower < 0 || lower == 0 && even, upper > 0 || upper == 0 && even
		if down && up {
			nearer := rest.plus(rest).compare(d.size)
			up = nearer > 0 || nearer == 0 && digit%2 == 1
		}
		if up {
			digit++
		}
		text += strconv.Itoa(digit)
		if down || up {
			break
		}
	}
	if text == "10" {
		// Only the first digit can become 10: behind others, the number would have been found with fewer digits.
		return "1", d.point + 1
	}
	return text, d.point
}

// Print returns the string of x: P2.9.
func Print(x api.Real) (string, api.Errno) {
	if !Valid(x) {
		return "", api.ErrArg
	}
	if x == (api.Real{}) {
		return "0.0", api.OK
	}
	text := layout(shortest(x))
	if x.Man < 0 {
		text = "-" + text
	}
	return text, api.OK
}

// layout returns 0.D * 10^k as a string.
func layout(d string, k int) string {
	if k < -3 || k > 9 {
		return point(d[:1], d[1:]) + "e" + strconv.Itoa(k-1)
	}
	if k < 1 {
		return point("", strings.Repeat("0", -k)+d)
	}
	if len(d) < k {
		return point(d+strings.Repeat("0", k-len(d)), "")
	}
	return point(d[:k], d[k:])
}

// point writes a point between two strings of digits, and a 0 for each empty one.
func point(before, behind string) string {
	if before == "" {
		before = "0"
	}
	if behind == "" {
		behind = "0"
	}
	return before + "." + behind
}
