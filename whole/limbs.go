package whole

import "math/bits"

// trimmed returns limbs without the zeros at their end.
func trimmed(a []uint64) []uint64 {
	n := len(a)
	for n > 0 && a[n-1] == 0 {
		n--
	}
	return a[:n]
}

// compareLimbs returns -1, 0 or 1.
func compareLimbs(a, b []uint64) int {
	switch {
	case len(a) < len(b):
		return -1
	case len(a) > len(b):
		return 1
	}
	for i := len(a) - 1; i >= 0; i-- {
		switch {
		case a[i] < b[i]:
			return -1
		case a[i] > b[i]:
			return 1
		}
	}
	return 0
}

// addLimbs returns the sum.
func addLimbs(a, b []uint64) []uint64 {
	if len(a) < len(b) {
		a, b = b, a
	}
	sum := make([]uint64, len(a)+1)
	var carry uint64
	for i, limb := range a {
		var other uint64
		if i < len(b) {
			other = b[i]
		}
		sum[i], carry = bits.Add64(limb, other, carry)
	}
	sum[len(a)] = carry
	return trimmed(sum)
}

// subtractLimbs returns the difference, where a is at least b.
func subtractLimbs(a, b []uint64) []uint64 {
	difference := make([]uint64, len(a))
	var borrow uint64
	for i, limb := range a {
		var other uint64
		if i < len(b) {
			other = b[i]
		}
		difference[i], borrow = bits.Sub64(limb, other, borrow)
	}
	return trimmed(difference)
}

// distance returns the magnitude of the difference.
func distance(a, b []uint64) []uint64 {
	if compareLimbs(a, b) < 0 {
		return subtractLimbs(b, a)
	}
	return subtractLimbs(a, b)
}

// multiplyLimbs returns the product.
func multiplyLimbs(a, b []uint64) []uint64 {
	if len(a) == 0 || len(b) == 0 {
		return nil
	}
	product := make([]uint64, len(a)+len(b))
	for i, x := range a {
		row := product[i : i+len(b)+1]
		var carry uint64
		for j, y := range b {
			high, low := bits.Mul64(x, y)
			var over uint64
			low, over = bits.Add64(low, row[j], 0)
			high += over
			row[j], over = bits.Add64(low, carry, 0)
			carry = high + over
		}
		row[len(b)] = carry
	}
	return trimmed(product)
}

// multiplyAdd returns the product with a factor, plus a summand.
func multiplyAdd(a []uint64, factor, summand uint64) []uint64 {
	result := make([]uint64, len(a)+1)
	carry := summand
	for i, limb := range a {
		high, low := bits.Mul64(limb, factor)
		var over uint64
		result[i], over = bits.Add64(low, carry, 0)
		carry = high + over
	}
	result[len(a)] = carry
	return trimmed(result)
}

// shiftLeft returns the product with 2 to the power of a count that is at least 0.
func shiftLeft(a []uint64, count int) []uint64 {
	if len(a) == 0 {
		return nil
	}
	skip, by := count/64, uint(count%64)
	shifted := make([]uint64, len(a)+skip+1)
	for i, limb := range a {
		shifted[i+skip] |= limb << by
		shifted[i+skip+1] = limb >> (64 - by)
	}
	return trimmed(shifted)
}

// shiftRight returns the quotient by 2 to the power of a count below 64, cut off.
func shiftRight(a []uint64, by uint) []uint64 {
	shifted := make([]uint64, len(a))
	for i, limb := range a {
		shifted[i] = limb >> by
		if i > 0 {
			shifted[i-1] |= limb << (64 - by)
		}
	}
	return trimmed(shifted)
}
