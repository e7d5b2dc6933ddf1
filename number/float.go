package number

import (
	"math"

	"lenslet/api"
	"lenslet/check"
	"lenslet/exact"
	"lenslet/whole"
)

// The form of a float32: the bits of its significand, the exponent of its least bit in the least
// float, and the power of 2 at which it ends.
const (
	significandBits = 24
	leastExponent   = -149
	endExponent     = 128
)

// sample returns a float, or its error.
func sample(f float32) (float32, api.Errno) {
	if math.IsNaN(float64(f)) || math.IsInf(float64(f), 0) {
		return 0, api.ErrForm
	}
	return f, api.OK
}

// Exact returns the exact value of a float32.
func Exact(f float32) (api.Rat, api.Errno) {
	if _, e := sample(f); e != api.OK {
		return "", e
	}
	fraction, exponent := math.Frexp(float64(f))
	significand := whole.Of(int(fraction * (1 << significandBits)))
	return scaled(exact.Whole(significand), exponent-significandBits).Rat()
}

// scaled returns a number times 2 to the power of an exponent.
func scaled(a exact.Number, exponent int) exact.Number {
	one := whole.Of(1)
	return a.Mul(exact.New(one.Shifted(exponent), one.Shifted(-exponent)))
}

// Float returns the nearest float32 to a number.
func Float(a api.Rat) (float32, api.Errno) {
	x, e := exact.Parse(a)
	if e != api.OK || x.Sign() == 0 {
		return 0, e
	}
	size := exact.Whole(x.Above().Abs()).Quo(exact.Whole(x.Below()))
	exponent := max(leadingExponent(size)-significandBits+1, leastExponent)
	significand, _ := nearestInteger(scaled(size, -exponent)).Int64()
	f := math.Ldexp(float64(significand), exponent)
	switch {
	case f >= math.Ldexp(1, endExponent):
		return 0, api.ErrLarge
	case x.Sign() < 0 && f > 0: // no result is -0
		f = -f
	}
	return float32(f), api.OK
}

// leadingExponent returns the exponent of the greatest power of 2 that is not above a number above 0.
func leadingExponent(a exact.Number) int {
	exponent := a.Above().BitLen() - a.Below().BitLen()
	if scaled(a, -exponent).Compare(exact.Of(1, 1)) < 0 {
		return exponent - 1
	}
	return exponent
}

// nearestInteger returns the nearest integer to a number, and the even one of two.
func nearestInteger(a exact.Number) whole.Int {
	low := a.Floor()
	side := a.Sub(exact.Whole(low)).Compare(exact.Of(1, 2))
	if side > 0 || side == 0 && low.IsOdd() {
		return low.Add(whole.Of(1))
	}
	return low
}

// CheckSamples returns the first error of samples, or OK.
func CheckSamples(l []float32) api.Errno {
	if len(l) > api.MaxSamples {
		return api.ErrMany
	}
	_, e := check.Each(l, sample)
	return e
}
