package real

import (
	"math/bits"

	"manorboy/api"
)

// FromInt returns the rounded value of n: P2.1.
func FromInt(n int) api.Real { return exactly(n, 0).rounded() }

// far is a difference of exponents beyond which the lesser number of a sum does not matter: it is less than a quarter of the distance from the greater one to the real below it.
const far = 32

func sum(x, y api.Real) exact {
	if x.Man == 0 {
		return exactly(y.Man, y.Exp)
	}
	if y.Man == 0 {
		return exactly(x.Man, x.Exp)
	}
	if x.Exp < y.Exp {
		x, y = y, x
	}
	gap := x.Exp - y.Exp
	if gap > far {
		return exactly(x.Man, x.Exp)
	}
	return exactly(x.Man<<gap+y.Man, y.Exp)
}

func product(x, y api.Real) exact { return exactly(x.Man*y.Man, x.Exp+y.Exp) }

// quotient needs a y that is not 0.
func quotient(x, y api.Real) exact {
	above, below := exactly(x.Man, x.Exp), exactly(y.Man, y.Exp)
	// With 64 bits above and at most 24 below, the quotient has at least 40.
	shift := bits.LeadingZeros64(above.man)
	above.man <<= shift
	return exact{
		negative: above.negative != below.negative,
		man:      above.man / below.man,
		exp:      above.exp - shift - below.exp,
		more:     above.man%below.man != 0,
	}
}

// root needs an x that is not negative.
func root(x api.Real) exact {
	shift := bits.LeadingZeros64(uint64(x.Man))
	if (x.Exp-shift)%2 != 0 {
		// Half of the exponent has to be an integer.
		shift--
	}
	square := uint64(x.Man) << shift
	man := squareRoot(square)
	return exact{man: man, exp: (x.Exp - shift) / 2, more: man*man != square}
}

// squareRoot returns the greatest integer whose square is at most n.
func squareRoot(n uint64) uint64 {
	found := uint64(0)
	for bit := uint64(1) << 31; bit > 0; bit /= 2 {
		if (found+bit)*(found+bit) <= n {
			found += bit
		}
	}
	return found
}

// power rounds each product.
func power(x api.Real, n uint64) api.Real {
	if n == 0 {
		return FromInt(1)
	}
	if n%2 == 1 {
		return product(x, power(x, n-1)).rounded()
	}
	y := power(x, n/2)
	return product(y, y).rounded()
}

// combined returns the rounded result of an operation.
func combined(x, y api.Real, operation func(x, y api.Real) exact) (api.Real, api.Errno) {
	if !bothValid(x, y) {
		return api.Real{}, api.ErrArg
	}
	return guarded(func() api.Real { return operation(x, y).rounded() })
}

// Add returns the rounded sum: P2.4.
func Add(x, y api.Real) (api.Real, api.Errno) { return combined(x, y, sum) }

// Sub returns the rounded difference: P2.4.
func Sub(x, y api.Real) (api.Real, api.Errno) {
	return combined(x, y, func(x, y api.Real) exact { return sum(x, opposite(y)) })
}

// Mul returns the rounded product: P2.4.
func Mul(x, y api.Real) (api.Real, api.Errno) { return combined(x, y, product) }

// Div returns the rounded quotient: P2.4.
func Div(x, y api.Real) (api.Real, api.Errno) {
	if bothValid(x, y) && y.Man == 0 {
		return api.Real{}, api.ErrNone
	}
	return combined(x, y, quotient)
}

// Sqrt returns the rounded square root: P2.5.
func Sqrt(x api.Real) (api.Real, api.Errno) {
	if !Valid(x) {
		return api.Real{}, api.ErrArg
	}
	if x.Man < 0 {
		return api.Real{}, api.ErrNone
	}
	return guarded(func() api.Real { return root(x).rounded() })
}

// Pow returns a power: P2.6.
func Pow(x api.Real, n int) (api.Real, api.Errno) {
	if !Valid(x) {
		return api.Real{}, api.ErrArg
	}
	if x.Man == 0 && n < 0 {
		return api.Real{}, api.ErrNone
	}
	return guarded(func() api.Real {
		if n >= 0 {
			return power(x, uint64(n))
		}
		// The opposite of the least int is no int, but it is a number without a sign.
		y := power(x, -uint64(n))
		if y.Man == 0 {
			panic(api.ErrRange)
		}
		return quotient(FromInt(1), y).rounded()
	})
}

// halves returns the greatest integer that is at most 2x. The exponent has to be at most that of an integer.
func halves(x api.Real) int {
	if x.Exp < -1 {
		return x.Man >> (-1 - x.Exp)
	}
	return x.Man << (x.Exp + 1)
}

// whole returns the greatest integer that is at most x and some halves.
func whole(x api.Real, plus int) (int, api.Errno) {
	if !Valid(x) {
		return 0, api.ErrArg
	}
	if x.Exp > bits.Len(api.MaxInt) {
		return 0, api.ErrRange
	}
	n := (halves(x) + plus) >> 1
	if n < -api.MaxInt || n > api.MaxInt {
		return 0, api.ErrRange
	}
	return n, api.OK
}

// Entier returns the greatest integer that is at most x: P2.7.
func Entier(x api.Real) (int, api.Errno) { return whole(x, 0) }

// Round returns the greatest integer that is at most x + 1/2: P2.7.
func Round(x api.Real) (int, api.Errno) { return whole(x, 1) }
