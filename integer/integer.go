// Package integer is layer 1: see shared/doc/01-integer.md.
package integer

import (
	"cmp"

	"manorboy/api"
)

// Valid reports whether n is an integer of a program: I1.
func Valid(n int) bool { return -api.MaxInt <= n && n <= api.MaxInt }

func bothValid(a, b int) bool { return Valid(a) && Valid(b) }

// fit hands on a result that has been computed exactly. No sum or product of two valid integers overflows the 64 bits of an int.
func fit(n int) (int, api.Errno) {
	if !Valid(n) {
		return 0, api.ErrRange
	}
	return n, api.OK
}

// Neg returns the opposite of an integer: I2.
func Neg(a int) (int, api.Errno) {
	if !Valid(a) {
		return 0, api.ErrArg
	}
	return -a, api.OK
}

// Abs returns the magnitude of an integer: I2.
func Abs(a int) (int, api.Errno) {
	if !Valid(a) {
		return 0, api.ErrArg
	}
	return max(a, -a), api.OK
}

// Sign returns the sign of an integer: I2.
func Sign(a int) (int, api.Errno) {
	if !Valid(a) {
		return 0, api.ErrArg
	}
	return cmp.Compare(a, 0), api.OK
}

// Add returns a sum: I3.
func Add(a, b int) (int, api.Errno) {
	if !bothValid(a, b) {
		return 0, api.ErrArg
	}
	return fit(a + b)
}

// Sub returns a difference: I3.
func Sub(a, b int) (int, api.Errno) {
	if !bothValid(a, b) {
		return 0, api.ErrArg
	}
	return fit(a - b)
}

// Mul returns a product: I3.
func Mul(a, b int) (int, api.Errno) {
	if !bothValid(a, b) {
		return 0, api.ErrArg
	}
	return fit(a * b)
}

// division returns the error of a division of a by b.
func division(a, b int) api.Errno {
	if !bothValid(a, b) {
		return api.ErrArg
	}
	if b == 0 {
		return api.ErrNone
	}
	return api.OK
}

// Quo returns a quotient, rounded towards zero: I4.
func Quo(a, b int) (int, api.Errno) {
	if e := division(a, b); e != api.OK {
		return 0, e
	}
	return a / b, api.OK
}

// Rem returns the remainder of Quo: I4.
func Rem(a, b int) (int, api.Errno) {
	if e := division(a, b); e != api.OK {
		return 0, e
	}
	return a % b, api.OK
}

// floor rounds the quotient down; Go's own division rounds it towards zero.
func floor(a, b int) int {
	quotient, rest := a/b, a%b
	if rest != 0 && (rest < 0) != (b < 0) {
		return quotient - 1
	}
	return quotient
}

// Floor returns a quotient, rounded down: I5.
func Floor(a, b int) (int, api.Errno) {
	if e := division(a, b); e != api.OK {
		return 0, e
	}
	return floor(a, b), api.OK
}

// Mod returns the remainder of Floor: I5.
func Mod(a, b int) (int, api.Errno) {
	if e := division(a, b); e != api.OK {
		return 0, e
	}
	return a - floor(a, b)*b, api.OK
}

// Pow returns a power: I6.
func Pow(a, n int) (int, api.Errno) {
	if !bothValid(a, n) || n < 0 {
		return 0, api.ErrArg
	}
	if a == 0 && n == 0 {
		return 0, api.ErrNone
	}
	if -1 <= a && a <= 1 {
		// These powers never leave the range, however many factors there are; but they depend on whether n is even, alone.
		n = 2 - n%2
	}
	power := 1
	for range n {
		power *= a
		if !Valid(power) {
			return 0, api.ErrRange
		}
	}
	return power, api.OK
}

// Cmp compares two integers: I7.
func Cmp(a, b int) (int, api.Errno) {
	if !bothValid(a, b) {
		return 0, api.ErrArg
	}
	return cmp.Compare(a, b), api.OK
}

// Sum returns the sum of a list: I8.
func Sum(l []int) (int, api.Errno) {
	sum := 0
	for _, n := range l {
		if !Valid(n) {
			return 0, api.ErrArg
		}
		sum += n
	}
	return fit(sum)
}

// Trips returns how often a loop with constant bounds is repeated, and whether its variable leaves the range behind it: I11.
func Trips(first, step, last int) (n int, over bool, e api.Errno) {
	if !bothValid(first, step) || !Valid(last) {
		return 0, false, api.ErrArg
	}
	if step == 0 {
		return 0, false, api.ErrNone
	}
	if step > 0 && first > last || step < 0 && first < last {
		return 0, false, api.OK
	}
	// last-first is 0 or has the sign of step, so that rounding towards zero does not count a term behind last.
	n = (last-first)/step + 1
	return n, !Valid(first + n*step), api.OK
}
