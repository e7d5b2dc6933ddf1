package whole

import "math/bits"

// Divisor returns the greatest common divisor; that of 0 and another integer is the magnitude of the other.
func Divisor(a, b Int) Int {
	x, y := a.limbs, b.limbs
	if compareLimbs(x, y) < 0 {
		x, y = y, x
	}
	for len(y) > 1 {
		x, y = reduced(x, y)
	}
	if len(y) == 0 {
		return Int{false, x}
	}
	_, rest := divideSmall(x, y[0])
	return Int{false, []uint64{smallDivisor(y[0], rest)}}
}

// smallDivisor returns the greatest common divisor of single limbs.
func smallDivisor(a, b uint64) uint64 {
	for b != 0 {
		a, b = b, a%b
	}
	return a
}

// reduced returns two later members of the sequence of Euclid's algorithm, for x at least y,
// where y has several limbs.
func reduced(x, y []uint64) ([]uint64, []uint64) {
	s := euclid(x, y)
	if s.y0 == 0 {
		_, rest := divideLimbs(x, y)
		return y, rest
	}
	return distance(multiplyAdd(x, s.x0, 0), multiplyAdd(y, s.y0, 0)),
		distance(multiplyAdd(x, s.x1, 0), multiplyAdd(y, s.y1, 0))
}

// steps stands for several steps of Euclid's algorithm: they replace x and y by the magnitudes
// of x0 x - y0 y and x1 x - y1 y.
type steps struct {
	x0, y0, x1, y1 uint64
}

// euclid makes as many steps as the highest 64 bits decide (Lehmer's algorithm, with the
// condition of Collins for the last step). It makes none, and y0 is 0, if they decide nothing.
func euclid(x, y []uint64) steps {
	n := len(x)
	shift := uint(bits.LeadingZeros64(x[n-1]))
	high := x[n-1]<<shift | x[n-2]>>(64-shift)
	var low uint64
	switch len(y) {
	case n:
		low = y[n-1]<<shift | y[n-2]>>(64-shift)
	case n - 1:
		low = y[n-2] >> (64 - shift)
	}
	s := steps{x0: 0, y0: 0, x1: 1, y1: 0}
	x2, y2 := uint64(0), uint64(1)
	for low >= y2 && high-low >= s.y1+y2 {
		q, rest := high/low, high%low
		high, low = low, rest
		s, x2, y2 = steps{s.x1, s.y1, x2, y2}, s.x1+q*x2, s.y1+q*y2
	}
	return s
}
