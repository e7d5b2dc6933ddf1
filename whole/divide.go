package whole

import (
	"math"
	"math/bits"
)

// divideSmall returns the quotient by a single limb that is not 0, and the rest.
func divideSmall(a []uint64, divisor uint64) ([]uint64, uint64) {
	quotient := make([]uint64, len(a))
	var rest uint64
	for i := len(a) - 1; i >= 0; i-- {
		quotient[i], rest = bits.Div64(rest, a[i], divisor)
	}
	return trimmed(quotient), rest
}

// divideLimbs returns the quotient and the rest of a division by limbs that are not 0
// (algorithm D in Knuth, The Art of Computer Programming, 4.3.1).
func divideLimbs(a, b []uint64) (quotient, rest []uint64) {
	if compareLimbs(a, b) < 0 {
		return nil, a
	}
	if len(b) == 1 {
		quotient, last := divideSmall(a, b[0])
		return quotient, trimmed([]uint64{last})
	}
	n := len(b)
	// The guesses are good because the highest bit of the divisor is 1.
	shift := bits.LeadingZeros64(b[n-1])
	v := shiftLeft(b, shift)
	u := make([]uint64, len(a)+1)
	copy(u, shiftLeft(a, shift))
	quotient = make([]uint64, len(a)-n+1)
	for j := len(quotient) - 1; j >= 0; j-- {
		part := u[j : j+n+1]
		digit := guessDigit([3]uint64{part[n], part[n-1], part[n-2]}, [2]uint64{v[n-1], v[n-2]})
		var carry, borrow uint64
		for i, limb := range v {
			high, low := bits.Mul64(digit, limb)
			var over uint64
			low, over = bits.Add64(low, carry, 0)
			carry = high + over
			part[i], borrow = bits.Sub64(part[i], low, borrow)
		}
		part[n], borrow = bits.Sub64(part[n], carry, borrow)
		for borrow != 0 { // the guess was too great
			digit--
			var over uint64
			for i, limb := range v {
				part[i], over = bits.Add64(part[i], limb, over)
			}
			part[n], over = bits.Add64(part[n], 0, over)
			borrow -= over
		}
		quotient[j] = digit
	}
	return trimmed(quotient), shiftRight(trimmed(u[:n]), uint(shift))
}

// guessDigit returns a digit of a quotient, or slightly more, from the highest three limbs of
// what is left and the highest two of the divisor.
func guessDigit(left [3]uint64, divisor [2]uint64) uint64 {
	if left[0] >= divisor[0] {
		return math.MaxUint64
	}
	digit, rest := bits.Div64(left[0], left[1], divisor[0])
	for {
		high, low := bits.Mul64(digit, divisor[1])
		if high < rest || high == rest && low <= left[2] {
			return digit
		}
		digit--
		var over uint64
		rest, over = bits.Add64(rest, divisor[0], 0)
		if over != 0 {
			return digit
		}
	}
}
