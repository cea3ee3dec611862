package real

import (
	"math/bits"

	"manorboy/api"
)

// exact is a number that is to be rounded: its magnitude is man * 2^exp, and if more is set, something above that and below (man+1) * 2^exp. Whoever sets more gives man more bits than a mantissa has, so that what is left out cannot decide anything but a tie.
type exact struct {
	negative bool
	man      uint64
	exp      int
	more     bool
}

// exactly returns man * 2^exp.
func exactly(man, exp int) exact {
	if man < 0 {
		// The least int has no opposite; its bits are those of its magnitude nevertheless.
		return exact{negative: true, man: uint64(-man), exp: exp}
	}
	return exact{man: uint64(man), exp: exp}
}

// rounded returns the rounded value of x. It panics if there is none: see guarded.
func (x exact) rounded() api.Real {
	man, exp := x.shortened()
	if man == 0 {
		return api.Real{}
	}
	if exp > api.MaxExp {
		panic(api.ErrRange)
	}
	if x.negative {
		man = -man
	}
	return api.Real{Man: man, Exp: exp}
}

// shortened returns the magnitude of x with a mantissa of the length that a real has, whatever the exponent is, if it is not too small.
func (x exact) shortened() (man, exp int) {
	drop := max(bits.Len64(x.man)-api.RealBits, api.MinExp-x.exp)
	if drop <= 0 {
		return int(x.man << -drop), x.exp + drop
	}
	if drop > 64 {
		// All bits of man are behind the half of the last place.
		return 0, 0
	}
	kept, half := x.man>>drop, uint64(1)<<(drop-1)
	dropped := x.man - kept<<drop
	if dropped > half || dropped == half && (x.more || kept%2 == 1) {
		kept++
	}
	if kept == 2*unit {
		return unit, x.exp + drop + 1
	}
	return int(kept), x.exp + drop
}

// guarded returns the result of an operation; if one of its roundings panics, because there is no rounded value, ErrRange.
func guarded(operation func() api.Real) (x api.Real, e api.Errno) {
	defer func() {
		if recover() != nil {
			x, e = api.Real{}, api.ErrRange
		}
	}()
	return operation(), api.OK
}
