package pupil

import (
	"cmp"
	"slices"

	"lenslet/api"
	"lenslet/check"
	"lenslet/exact"
	"lenslet/total"
)

// Term is a term of a polynomial: C times X to the power of I times Y to the power of J.
type Term struct {
	C api.Rat
	I int
	J int
}

// Poly is a polynomial of X and Y.
type Poly []Term

// powers are the exponents of X and Y in a term.
type powers struct {
	x, y int
}

// compare compares powers in the order of terms.
func (p powers) compare(q powers) int {
	return cmp.Or(cmp.Compare(p.x+p.y, q.x+q.y), cmp.Compare(q.x, p.x))
}

// limited reports whether a term of a polynomial may have these powers.
func (p powers) limited() bool {
	return p.x >= 0 && p.y >= 0 && p.y <= MaxDegree-p.x
}

// term is a term whose coefficient may have any number of digits.
type term struct {
	c  exact.Number
	at powers
}

// polynomial has terms in their order, and none with the coefficient 0.
type polynomial []term

// collection has the sum of the coefficients of all terms with the same powers.
type collection map[powers]exact.Number

// add adds a term.
func (c collection) add(t term) { c[t.at] = c[t.at].Add(t.c) }

// ordered returns the sum of all terms.
func (c collection) ordered() polynomial {
	var f polynomial
	for at, coefficient := range c {
		if coefficient.Sign() != 0 {
			f = append(f, term{coefficient, at})
		}
	}
	slices.SortFunc(f, func(s, t term) int { return s.at.compare(t.at) })
	return f
}

// pass passes on the terms.
func (f polynomial) pass(take func(term)) {
	for _, t := range f {
		take(t)
	}
}

// plus returns the sum of two polynomials.
func (f polynomial) plus(g polynomial) polynomial {
	sum := collection{}
	f.pass(sum.add)
	g.pass(sum.add)
	return sum.ordered()
}

// times returns the product of two polynomials.
func (f polynomial) times(g polynomial) polynomial {
	sum := collection{}
	for _, s := range f {
		for _, t := range g {
			sum.add(term{s.c.Mul(t.c), powers{s.at.x + t.at.x, s.at.y + t.at.y}})
		}
	}
	return sum.ordered()
}

// degree returns the degree; that of 0 is 0.
func (f polynomial) degree() int {
	if len(f) == 0 {
		return 0
	}
	last := f[len(f)-1].at
	return last.x + last.y
}

// place is a place of the plane of the pupil.
type place struct {
	x, y exact.Number
}

// at returns the value at a place.
func (f polynomial) at(p place) exact.Number {
	x, y := allPowers(p.x), allPowers(p.y)
	values := make([]exact.Number, len(f))
	for k, t := range f {
		values[k] = x[t.at.x].Mul(y[t.at.y]).Mul(t.c)
	}
	return total.Of(values, exact.Number.Add)
}

// allPowers returns a number to the powers from 0 to MaxDegree.
func allPowers(a exact.Number) [MaxDegree + 1]exact.Number {
	list := [MaxDegree + 1]exact.Number{exact.Of(1, 1)}
	for k := range MaxDegree {
		list[k+1] = list[k].Mul(a)
	}
	return list
}

// byX returns the derivative by X. Its terms are in order, as each has lost one power of X.
func (f polynomial) byX() polynomial {
	var derivative polynomial
	for _, t := range f {
		if t.at.x > 0 {
			derivative = append(derivative, term{t.c.Mul(exact.Of(t.at.x, 1)), powers{t.at.x - 1, t.at.y}})
		}
	}
	return derivative
}

// byY returns the derivative by Y.
func (f polynomial) byY() polynomial {
	var derivative polynomial
	for _, t := range f {
		if t.at.y > 0 {
			derivative = append(derivative, term{t.c.Mul(exact.Of(t.at.y, 1)), powers{t.at.x, t.at.y - 1}})
		}
	}
	return derivative
}

// readPoly returns a polynomial, or its first error.
func readPoly(f Poly) (polynomial, api.Errno) {
	var terms polynomial
	for k, t := range f {
		c, wrong := exact.Parse(t.C)
		at := powers{t.I, t.J}
		e := check.First(
			wrong,
			check.If(c.Sign() == 0, api.ErrZero),
			check.If(!at.limited(), api.ErrRange),
			check.If(k > 0 && terms[k-1].at.compare(at) >= 0, api.ErrOrder),
		)
		if e != api.OK {
			return nil, e
		}
		terms = append(terms, term{c, at})
	}
	return terms, api.OK
}

// pairOfPolys returns two polynomials, or their first error.
func pairOfPolys(f, g Poly) (polynomial, polynomial, api.Errno) {
	left, wrongF := readPoly(f)
	right, wrongG := readPoly(g)
	return left, right, check.First(wrongF, wrongG)
}

// poly returns a polynomial with its coefficients as strings, or ErrLarge.
func (f polynomial) poly() (Poly, api.Errno) {
	return check.Each(f, func(t term) (Term, api.Errno) {
		c, e := t.c.Rat()
		return Term{c, t.at.x, t.at.y}, e
	})
}

// readPlace returns a place, or its first error.
func readPlace(at api.Place) (place, api.Errno) {
	x, wrongX := exact.Parse(at.X)
	y, wrongY := exact.Parse(at.Y)
	return place{x, y}, check.First(wrongX, wrongY)
}

// CheckPoly returns the first error of a polynomial, or OK.
func CheckPoly(f Poly) api.Errno {
	_, e := readPoly(f)
	return e
}

// Value returns the value of a polynomial at a place.
func Value(f Poly, at api.Place) (api.Rat, api.Errno) {
	terms, wrongPoly := readPoly(f)
	p, wrongPlace := readPlace(at)
	if e := check.First(wrongPoly, wrongPlace); e != api.OK {
		return "", e
	}
	return terms.at(p).Rat()
}

// AddPoly returns the sum of two polynomials.
func AddPoly(f, g Poly) (Poly, api.Errno) {
	left, right, e := pairOfPolys(f, g)
	if e != api.OK {
		return nil, e
	}
	return left.plus(right).poly()
}

// MulPoly returns the product of two polynomials.
func MulPoly(f, g Poly) (Poly, api.Errno) {
	left, right, e := pairOfPolys(f, g)
	switch {
	case e != api.OK:
		return nil, e
	case len(left) > 0 && len(right) > 0 && left.degree()+right.degree() > MaxDegree:
		return nil, api.ErrRange
	}
	return left.times(right).poly()
}

// Derive returns the derivative of a polynomial by X, or by Y.
func Derive(f Poly, axis string) (Poly, api.Errno) {
	terms, wrong := readPoly(f)
	if e := check.First(wrong, check.If(axis != "x" && axis != "y", api.ErrKind)); e != api.OK {
		return nil, e
	}
	if axis == "x" {
		return terms.byX().poly()
	}
	return terms.byY().poly()
}

// Turned returns a polynomial that is turned by a quarter.
func Turned(f Poly) (Poly, api.Errno) {
	terms, e := readPoly(f)
	if e != api.OK {
		return nil, e
	}
	turned := collection{}
	for _, t := range terms {
		if t.at.y%2 == 1 { // as -X stands in the place of Y
			t.c = t.c.Neg()
		}
		turned.add(term{t.c, powers{t.at.y, t.at.x}})
	}
	return turned.ordered().poly()
}
