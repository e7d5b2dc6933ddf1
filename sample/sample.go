// Package sample reads and makes float32 samples and float64 numbers exactly.
package sample

import (
	"math"

	"lenslet/api"
	"lenslet/exact"
	"lenslet/whole"
)

// The form of a float32: the bits of its significand, without and with the leading one, those of
// its exponent, and the power of 2 at which it ends.
const (
	fractionBits    = 23
	significandBits = fractionBits + 1
	specialExponent = 255
	endExponent     = 128
)

// UnitBits is the number of halvings that make the unit of samples, the least float, of 1.
const UnitBits = 149

// The form of a float64, as that of a float32.
const (
	doubleBits     = 53
	doubleUnitBits = 1074
	doubleExponent = 1024
)

// Units returns a sample as a multiple of the least float, or ErrForm for a NaN or an infinity.
func Units(f float32) (whole.Int, api.Errno) {
	bits := math.Float32bits(f)
	significand, exponent := bits%(1<<fractionBits), bits>>fractionBits%(specialExponent+1)
	switch exponent {
	case specialExponent:
		return whole.Int{}, api.ErrForm
	case 0: // a subnormal float, which has the exponent 1 without the leading one
		exponent = 1
	default:
		significand += 1 << fractionBits
	}
	units := whole.Of(int(significand)).Shifted(int(exponent) - 1)
	if f < 0 {
		units = units.Neg()
	}
	return units, api.OK
}

// Number returns the number that is so many units.
func Number(units whole.Int) exact.Number { return scaled(exact.Whole(units), -UnitBits) }

// scaled returns a number times 2 to the power of an exponent.
func scaled(a exact.Number, exponent int) exact.Number {
	one := whole.Of(1)
	return a.Mul(exact.New(one.Shifted(exponent), one.Shifted(-exponent)))
}

// Nearest returns the nearest float32 to a number, or ErrLarge if it would be too large.
func Nearest(a exact.Number) (float32, api.Errno) {
	f, e := nearest(a, significandBits, UnitBits, endExponent)
	return float32(f), e
}

// Double returns the exact value of a float64, or ErrForm for a NaN or an infinity.
func Double(f float64) (exact.Number, api.Errno) {
	if math.IsNaN(f) || math.IsInf(f, 0) {
		return exact.Number{}, api.ErrForm
	}
	fraction, exponent := math.Frexp(f)
	significand := int(math.Ldexp(fraction, doubleBits))
	return scaled(exact.Of(significand, 1), exponent-doubleBits), api.OK
}

// NearestDouble returns the nearest float64 to a number, or ErrLarge if it would be too large.
func NearestDouble(a exact.Number) (float64, api.Errno) {
	return nearest(a, doubleBits, doubleUnitBits, doubleExponent)
}

// nearest returns the nearest float to a number, of those whose significand and whose unit have so
// many bits, and which are below 2 to the power of an exponent.
func nearest(a exact.Number, significandBits, unitBits, endExponent int) (float64, api.Errno) {
	if a.Sign() == 0 {
		return 0, api.OK
	}
	size := a.Abs()
	exponent := max(leadingExponent(size)-significandBits+1, -unitBits)
	significand, _ := nearestInteger(scaled(size, -exponent)).Int64()
	f := math.Ldexp(float64(significand), exponent)
	switch {
	case f >= math.Ldexp(1, endExponent):
		return 0, api.ErrLarge
	case a.Sign() < 0 && f > 0: // no result is -0
		f = -f
	}
	return f, api.OK
}

// leadingExponent returns the exponent of the greatest power of 2 that is not above a number above 0.
func leadingExponent(a exact.Number) int {
	exponent := a.Above().BitLen() - a.Below().BitLen()
	if scaled(a, -exponent).Compare(exact.Of(1, 1)) < 0 {
		return exponent - 1
	}
	return exponent
}

// nearestInteger returns the nearest integer to a number, and the even one of two.
func nearestInteger(a exact.Number) whole.Int {
	low := a.Floor()
	side := a.Sub(exact.Whole(low)).Compare(exact.Of(1, 2))
	if side > 0 || side == 0 && low.IsOdd() {
		return low.Add(whole.Of(1))
	}
	return low
}
