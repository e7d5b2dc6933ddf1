package loop

import (
	"iter"
	"slices"

	"lenslet/api"
	"lenslet/check"
	"lenslet/exact"
	"lenslet/total"
)

// readPoly returns the coefficients of a polynomial, or its first error.
func readPoly(p []api.Rat) ([]exact.Number, api.Errno) {
	if e := check.Count(len(p), api.MaxOrder+1); e != api.OK {
		return nil, e
	}
	numbers, e := check.Each(p, exact.Parse)
	switch {
	case e != api.OK:
		return nil, e
	case numbers[len(p)-1].Sign() == 0:
		return nil, api.ErrZero
	}
	return numbers, api.OK
}

// writeList returns the strings of numbers, or ErrLarge.
func writeList(list []exact.Number) ([]api.Rat, api.Errno) {
	return check.Each(list, exact.Number.Rat)
}

// terms visits the coefficients that are not 0, each with its power.
func terms(p []exact.Number) iter.Seq2[int, exact.Number] {
	return func(yield func(int, exact.Number) bool) {
		for power, a := range p {
			if a.Sign() != 0 && !yield(power, a) {
				return
			}
		}
	}
}

// powers returns so many powers of a number, from the power 0 on.
func powers(x exact.Number, n int) []exact.Number {
	all := make([]exact.Number, n)
	power := one()
	for k := range n {
		all[k] = power
		power = power.Mul(x)
	}
	return all
}

// scaled returns a polynomial with the coefficients times the powers of a number.
func scaled(p []exact.Number, by exact.Number) []exact.Number {
	q := slices.Clone(p)
	for k, power := range powers(by, len(p)) {
		q[k] = q[k].Mul(power)
	}
	return q
}

// product returns the product of two polynomials.
func product(p, q []exact.Number) []exact.Number {
	all := make([]exact.Number, len(p)+len(q)-1)
	for i, a := range terms(p) {
		for k, b := range terms(q) {
			all[i+k] = all[i+k].Add(a.Mul(b))
		}
	}
	return all
}

// CheckPoly returns the first error of a polynomial, or OK.
func CheckPoly(p []api.Rat) api.Errno {
	_, e := readPoly(p)
	return e
}

// Multiply returns the product of two polynomials.
func Multiply(p, q []api.Rat) ([]api.Rat, api.Errno) {
	x, wrongP := readPoly(p)
	y, wrongQ := readPoly(q)
	degree := len(p) + len(q) - 2
	if e := check.First(wrongP, wrongQ, check.If(degree > api.MaxOrder, api.ErrMany)); e != api.OK {
		return nil, e
	}
	return writeList(product(x, y))
}

// Value returns the value of a polynomial at a number.
func Value(p []api.Rat, x api.Rat) (api.Rat, api.Errno) {
	coefficients, wrongP := readPoly(p)
	at, wrongX := exact.Parse(x)
	if e := check.First(wrongP, wrongX); e != api.OK {
		return "", e
	}
	return total.Of(scaled(coefficients, at), exact.Number.Add).Rat()
}

// Scaled returns the polynomial whose roots are divided by a number.
func Scaled(p []api.Rat, by api.Rat) ([]api.Rat, api.Errno) {
	coefficients, wrongP := readPoly(p)
	factor, wrongBy := exact.Parse(by)
	e := check.First(wrongP, wrongBy, check.If(factor.Sign() == 0, api.ErrZero))
	if e != api.OK {
		return nil, e
	}
	return writeList(scaled(coefficients, factor))
}
