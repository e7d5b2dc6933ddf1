package pupil

import (
	"lenslet/api"
	"lenslet/check"
	"lenslet/exact"
	"lenslet/total"
)

var factorials = [MaxZernike + 1]int{1, 1, 2, 6, 24, 120, 720, 5040, 40320}

// monomial returns a polynomial of one term.
func monomial(c, x, y int) polynomial {
	return polynomial{{exact.Of(c, 1), powers{x, y}}}
}

// radial returns the factor of a Zernike polynomial that depends on the distance from the origin alone.
func radial(n, k int) polynomial {
	half := (n - k) / 2
	square := monomial(1, 2, 0).plus(monomial(1, 0, 2))
	power := monomial(1, 0, 0)
	var parts []polynomial
	for s := half; s >= 0; s-- {
		c := factorials[n-s] / (factorials[s] * factorials[(n+k)/2-s] * factorials[half-s])
		if s%2 == 1 {
			c = -c
		}
		parts = append(parts, power.times(monomial(c, 0, 0)))
		power = power.times(square)
	}
	return total.Of(parts, polynomial.plus)
}

// harmonic returns the real and the imaginary part of (X + iY) to a power.
func harmonic(k int) (re, im polynomial) {
	x, y, minusY := monomial(1, 1, 0), monomial(1, 0, 1), monomial(-1, 0, 1)
	re = monomial(1, 0, 0)
	for range k {
		re, im = re.times(x).plus(im.times(minusY)), re.times(y).plus(im.times(x))
	}
	return re, im
}

// Zernike returns a Zernike polynomial.
func Zernike(n, m int) (Poly, api.Errno) {
	e := check.First(
		check.Range(n, 0, MaxZernike),
		check.Range(m, -n, n),
		check.If((n-m)%2 != 0, api.ErrRule),
	)
	if e != api.OK {
		return nil, e
	}
	k := max(m, -m)
	angular, im := harmonic(k)
	if m < 0 {
		angular = im
	}
	return radial(n, k).times(angular).poly()
}

// semifactorial returns the product of k, k - 2 and so on down to 1 or 2.
func semifactorial(k int) int {
	product := 1
	for ; k > 1; k -= 2 {
		product *= k
	}
	return product
}

// moment returns the integral of a product of powers over the full disc, divided by pi.
func moment(p powers) exact.Number {
	if p.x%2 == 1 || p.y%2 == 1 {
		return exact.Number{}
	}
	all := p.x + p.y
	above := 2 * semifactorial(p.x-1) * semifactorial(p.y-1)
	return exact.Of(above, semifactorial(all)).Quo(exact.Of(all+2, 1))
}

// DiscProduct returns the inner product of two polynomials on the full disc, in units of pi.
func DiscProduct(f, g Poly) (api.Rat, api.Errno) {
	left, right, e := pairOfPolys(f, g)
	if e != api.OK {
		return "", e
	}
	product := left.times(right)
	integrals := make([]exact.Number, len(product))
	for k, t := range product {
		integrals[k] = t.c.Mul(moment(t.at))
	}
	return total.Of(integrals, exact.Number.Add).Rat()
}
