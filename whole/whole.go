// Package whole computes with integers of any size.
package whole

import "math/bits"

// Int is an integer; its zero value is 0. Its limbs stand in ascending order, the last one is
// not 0, and they are never changed, so that several integers may share them.
// The integer 0 has no limbs and is not negative.
type Int struct {
	negative bool
	limbs    []uint64
}

// Of returns an integer.
func Of(n int) Int {
	if n == 0 {
		return Int{}
	}
	magnitude := uint64(n)
	if n < 0 {
		magnitude = -magnitude
	}
	return Int{n < 0, []uint64{magnitude}}
}

// signed returns the integer with these limbs and this sign.
func signed(negative bool, limbs []uint64) Int {
	return Int{negative && len(limbs) > 0, limbs}
}

// Power returns a base to an exponent; a negative exponent counts as 0.
func Power(base, exponent int) Int {
	power, square := Of(1), Of(base)
	for rest := exponent; rest > 0; rest /= 2 {
		if rest%2 == 1 {
			power = power.Mul(square)
		}
		square = square.Mul(square)
	}
	return power
}

// Int64 returns an integer as an int64, and whether its magnitude is below 2^63.
func (a Int) Int64() (int64, bool) {
	if len(a.limbs) == 0 {
		return 0, true
	}
	if len(a.limbs) > 1 || a.limbs[0] >= 1<<63 {
		return 0, false
	}
	n := int64(a.limbs[0])
	if a.negative {
		n = -n
	}
	return n, true
}

// Sign returns -1, 0 or 1 for an integer below, equal to, or above 0.
func (a Int) Sign() int {
	switch {
	case len(a.limbs) == 0:
		return 0
	case a.negative:
		return -1
	}
	return 1
}

// IsOne reports whether an integer is 1.
func (a Int) IsOne() bool { return len(a.limbs) == 1 && a.limbs[0] == 1 && !a.negative }

// IsOdd reports whether an integer is odd.
func (a Int) IsOdd() bool { return len(a.limbs) > 0 && a.limbs[0]%2 == 1 }

// BitLen returns the number of binary digits of the magnitude; that of 0 is 0.
func (a Int) BitLen() int {
	n := len(a.limbs)
	if n == 0 {
		return 0
	}
	return 64*(n-1) + bits.Len64(a.limbs[n-1])
}

// Neg returns the negated integer.
func (a Int) Neg() Int { return signed(!a.negative, a.limbs) }

// Abs returns the magnitude.
func (a Int) Abs() Int { return signed(false, a.limbs) }

// Compare returns -1, 0 or 1.
func (a Int) Compare(b Int) int {
	if a.Sign() != b.Sign() {
		if a.Sign() < b.Sign() {
			return -1
		}
		return 1
	}
	order := compareLimbs(a.limbs, b.limbs)
	if a.negative {
		return -order
	}
	return order
}

// Add returns the sum.
func (a Int) Add(b Int) Int {
	if a.negative == b.negative {
		return signed(a.negative, addLimbs(a.limbs, b.limbs))
	}
	if compareLimbs(a.limbs, b.limbs) >= 0 {
		return signed(a.negative, subtractLimbs(a.limbs, b.limbs))
	}
	return signed(b.negative, subtractLimbs(b.limbs, a.limbs))
}

// Sub returns the difference.
func (a Int) Sub(b Int) Int { return a.Add(b.Neg()) }

// Mul returns the product.
func (a Int) Mul(b Int) Int {
	return signed(a.negative != b.negative, multiplyLimbs(a.limbs, b.limbs))
}

// Shifted returns the product with 2 to the power of a count; a negative count counts as 0.
func (a Int) Shifted(count int) Int { return signed(a.negative, shiftLeft(a.limbs, max(count, 0))) }

// QuoRem returns the quotient, cut off towards 0, and the rest, which has the sign of a.
// Divided by 0 the quotient is 0 and the rest is a.
func (a Int) QuoRem(b Int) (Int, Int) {
	if len(b.limbs) == 0 {
		return Int{}, a
	}
	quotient, rest := divideLimbs(a.limbs, b.limbs)
	return signed(a.negative != b.negative, quotient), signed(a.negative, rest)
}

// Quo returns the quotient, cut off towards 0; divided by 0 it is 0.
func (a Int) Quo(b Int) Int {
	quotient, _ := a.QuoRem(b)
	return quotient
}

// Floor returns the greatest integer that is not above the quotient of a and b; divided by 0 it is 0.
func (a Int) Floor(b Int) Int {
	quotient, rest := a.QuoRem(b)
	if b.Sign() != 0 && rest.Sign()*b.Sign() < 0 {
		return quotient.Sub(Of(1))
	}
	return quotient
}

// Root returns the greatest integer whose square is not above a; for a negative one it is 0.
func (a Int) Root() Int {
	if a.Sign() <= 0 {
		return Int{}
	}
	// Newton's steps from above the root descend until they reach it.
	guess := Of(1).Shifted((a.BitLen() + 1) / 2)
	for {
		next := guess.Add(a.Quo(guess)).Quo(Of(2))
		if next.Compare(guess) >= 0 {
			return guess
		}
		guess = next
	}
}
