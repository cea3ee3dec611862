package real

import (
	"cmp"
	"math/bits"
)

// natural is a natural number, its lowest bits first. The largest ones are the powers of 10 in denominators of numeric strings, of less than 350 bits.
type natural [6]uint64

// powersOf10 are those that fit into 64 bits.
var powersOf10 = [20]uint64{
	1, 10, 100, 1000, 10000, 100000, 1000000, 10000000, 100000000, 1000000000,
	10000000000, 100000000000, 1000000000000, 10000000000000, 100000000000000,
	1000000000000000, 10000000000000000, 100000000000000000, 1000000000000000000,
	10000000000000000000,
}

func (n natural) plus(m natural) natural {
	carry := uint64(0)
	for i := range n {
		n[i], carry = bits.Add64(n[i], m[i], carry)
	}
	return n
}

// minus needs an m that is at most n.
func (n natural) minus(m natural) natural {
	borrow := uint64(0)
	for i := range n {
		n[i], borrow = bits.Sub64(n[i], m[i], borrow)
	}
	return n
}

func (n natural) times(factor uint64) natural {
	carry := uint64(0)
	for i := range n {
		high, low := bits.Mul64(n[i], factor)
		sum, over := bits.Add64(low, carry, 0)
		n[i], carry = sum, high+over
	}
	return n
}

// timesPower returns n * 10^power.
func (n natural) timesPower(power int) natural {
	most := len(powersOf10) - 1
	for ; power > most; power -= most {
		n = n.times(powersOf10[most])
	}
	return n.times(powersOf10[power])
}

// shifted returns n * 2^by.
func (n natural) shifted(by int) natural {
	for ; by >= 64; by -= 64 {
		copy(n[1:], n[:])
		n[0] = 0
	}
	return n.times(1 << by)
}

func (n natural) compare(m natural) int {
	for i := len(n) - 1; i >= 0; i-- {
		if n[i] != m[i] {
			return cmp.Compare(n[i], m[i])
		}
	}
	return 0
}

// length is the number of bits, from the first 1 on.
func (n natural) length() int {
	for i := len(n) - 1; i >= 0; i-- {
		if n[i] != 0 {
			return 64*i + bits.Len64(n[i])
		}
	}
	return 0
}

// ratio returns above / below, two numbers that are not 0.
func ratio(above, below natural) exact {
	exp := above.length() - below.length()
	if exp > 0 {
		below = below.shifted(exp)
	} else {
		above = above.shifted(-exp)
	}
	man := uint64(0)
	// Numbers of the same length have a quotient above 1/2 and below 2, so that no bit but the first one is a leading 0.
	const places = 32
	for range places {
		man *= 2
		if above.compare(below) >= 0 {
			above = above.minus(below)
			man++
		}
		above = above.plus(above)
	}
	return exact{man: man, exp: exp - (places - 1), more: above != natural{}}
}
