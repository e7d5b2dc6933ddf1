// Package number is layer 1 (shared/doc/01-number.md): rational numbers, spans, boxes of complex
// numbers, roots and cosines, exact float32 values, linear equations, and a permutation.
package number

import (
	"lenslet/api"
	"lenslet/check"
	"lenslet/exact"
)

// MaxDecimals is the greatest number of decimals.
const MaxDecimals = 12

// IsName reports whether a string is a name.
func IsName(s string) bool {
	if len(s) < 1 || len(s) > api.MaxName {
		return false
	}
	for i, r := range s {
		letter := r >= 'A' && r <= 'Z' || r >= 'a' && r <= 'z'
		other := r >= '0' && r <= '9' || r == '_'
		if !letter && (i == 0 || !other) {
			return false
		}
	}
	return true
}

// Check returns the first error of a number, or OK.
func Check(a api.Rat) api.Errno {
	_, e := exact.Parse(a)
	return e
}

// Of returns the quotient of two integers.
func Of(num, den int) (api.Rat, api.Errno) {
	if den == 0 {
		return "", api.ErrZero
	}
	return exact.Of(num, den).Rat()
}

// pair returns two numbers, or the first error of their strings.
func pair(a, b api.Rat) (exact.Number, exact.Number, api.Errno) {
	x, wrongA := exact.Parse(a)
	y, wrongB := exact.Parse(b)
	return x, y, check.First(wrongA, wrongB)
}

// operate returns the result of an operation on two numbers.
func operate(a, b api.Rat, operation func(x, y exact.Number) exact.Number) (api.Rat, api.Errno) {
	x, y, e := pair(a, b)
	if e != api.OK {
		return "", e
	}
	return operation(x, y).Rat()
}

// Add returns the sum of two numbers.
func Add(a, b api.Rat) (api.Rat, api.Errno) { return operate(a, b, exact.Number.Add) }

// Sub returns the difference of two numbers.
func Sub(a, b api.Rat) (api.Rat, api.Errno) { return operate(a, b, exact.Number.Sub) }

// Mul returns the product of two numbers.
func Mul(a, b api.Rat) (api.Rat, api.Errno) { return operate(a, b, exact.Number.Mul) }

// Div returns the quotient of two numbers.
func Div(a, b api.Rat) (api.Rat, api.Errno) {
	x, y, e := pair(a, b)
	switch {
	case e != api.OK:
		return "", e
	case y.Sign() == 0:
		return "", api.ErrZero
	}
	return x.Quo(y).Rat()
}

// Order compares two numbers.
func Order(a, b api.Rat) (int, api.Errno) {
	x, y, e := pair(a, b)
	if e != api.OK {
		return 0, e
	}
	return x.Compare(y), api.OK
}

// Floor returns the greatest integer that is not above a number.
func Floor(a api.Rat) (api.Rat, api.Errno) {
	x, e := exact.Parse(a)
	if e != api.OK {
		return "", e
	}
	return exact.Whole(x.Floor()).Rat()
}
