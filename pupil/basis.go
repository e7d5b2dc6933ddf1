package pupil

import (
	"slices"

	"lenslet/api"
	"lenslet/check"
	"lenslet/exact"
	"lenslet/grid"
	"lenslet/linear"
)

// maxCells is the greatest number of elements of a vector.
const maxCells = api.MaxSide * api.MaxSide

// readVector returns the numbers of a vector, or its first error.
func readVector(v []api.Rat) ([]exact.Number, api.Errno) {
	return check.AtMost(v, maxCells, exact.Parse)
}

// writeVector returns the strings of numbers, or ErrLarge.
func writeVector(v []exact.Number) ([]api.Rat, api.Errno) {
	return check.Each(v, exact.Number.Rat)
}

// checkModes returns the error of a number of modes, or OK.
func checkModes(n int) api.Errno { return check.Count(n, api.MaxModes) }

// readBasis returns the vectors of a basis, or its first error. It does not examine whether they
// are orthogonal.
func readBasis(basis [][]api.Rat) ([][]exact.Number, api.Errno) {
	if e := checkModes(len(basis)); e != api.OK {
		return nil, e
	}
	return check.Each(basis, func(v []api.Rat) ([]exact.Number, api.Errno) {
		vector, e := readVector(v)
		return vector, check.First(e, check.If(len(v) != len(basis[0]), api.ErrShape))
	})
}

// checkOrthogonal returns the error of vectors that do not form a basis, or OK.
func checkOrthogonal(vectors [][]exact.Number) api.Errno {
	for k, v := range vectors {
		if isZero(v) {
			return api.ErrZero
		}
		for _, before := range vectors[:k] {
			if linear.Product(v, before).Sign() != 0 {
				return api.ErrRule
			}
		}
	}
	return api.OK
}

// isZero reports whether all elements are 0.
func isZero(v []exact.Number) bool {
	for _, x := range v {
		if x.Sign() != 0 {
			return false
		}
	}
	return true
}

// value returns the value of a polynomial at the centre of a cell.
func (d disc) value(f polynomial, c grid.Cell) exact.Number {
	x, y := d.centre(c)
	return f.at(place{exact.Of(x, d.size), exact.Of(y, d.size)})
}

// sampled returns the values of a polynomial at the centres of cells.
func (d disc) sampled(f polynomial, cells []grid.Cell) []exact.Number {
	values := make([]exact.Number, len(cells))
	for k, c := range cells {
		values[k] = d.value(f, c)
	}
	return values
}

// Sampled returns the values of a polynomial at the cells in the pupil.
func Sampled(p Pupil, f Poly) ([]api.Rat, api.Errno) {
	d, wrongPupil := readPupil(p)
	terms, wrongPoly := readPoly(f)
	if e := check.First(wrongPupil, wrongPoly); e != api.OK {
		return nil, e
	}
	cells := slices.Collect(d.cells())
	if len(cells) == 0 {
		return nil, api.ErrNone
	}
	return check.Each(cells, func(c grid.Cell) (api.Rat, api.Errno) { return d.value(terms, c).Rat() })
}

// readModes returns the polynomials of modes, or their first error.
func readModes(modes []Poly) ([]polynomial, api.Errno) {
	if e := checkModes(len(modes)); e != api.OK {
		return nil, e
	}
	return check.Each(modes, readPoly)
}

// Basis returns orthogonal vectors on the pupil for modes.
func Basis(p Pupil, modes []Poly) ([][]api.Rat, api.Errno) {
	d, wrongPupil := readPupil(p)
	polynomials, wrongModes := readModes(modes)
	if e := check.First(wrongPupil, wrongModes); e != api.OK {
		return nil, e
	}
	cells := slices.Collect(d.cells())
	if len(cells) == 0 {
		return nil, api.ErrNone
	}
	values := make([][]exact.Number, len(polynomials))
	for k, f := range polynomials {
		values[k] = d.sampled(f, cells)
	}
	basis, independent := linear.Orthogonal(values)
	if !independent {
		return nil, api.ErrSingular
	}
	return check.Each(basis, writeVector)
}

// Expand returns the coefficients of a phase in a basis, and the residual.
func Expand(basis [][]api.Rat, phase []api.Rat) ([]api.Rat, []api.Rat, api.Errno) {
	vectors, wrongBasis := readBasis(basis)
	values, wrongPhase := readVector(phase)
	if e := check.First(wrongBasis, wrongPhase); e != api.OK {
		return nil, nil, e
	}
	if len(values) != len(vectors[0]) {
		return nil, nil, api.ErrShape
	}
	if e := checkOrthogonal(vectors); e != api.OK {
		return nil, nil, e
	}
	residual := make([]exact.Number, len(values))
	copy(residual, values)
	coefficients := make([]api.Rat, len(vectors))
	for k, v := range vectors {
		c := linear.Product(values, v).Quo(linear.Product(v, v))
		text, e := c.Rat()
		if e != api.OK { // before the residual is computed with so large a number
			return nil, nil, e
		}
		coefficients[k] = text
		for i, x := range v {
			residual[i] = residual[i].Sub(c.Mul(x))
		}
	}
	rest, e := writeVector(residual)
	if e != api.OK {
		return nil, nil, e
	}
	return coefficients, rest, api.OK
}

// Compose returns the phase with some coefficients in a basis.
func Compose(basis [][]api.Rat, coefficients []api.Rat) ([]api.Rat, api.Errno) {
	vectors, wrongBasis := readBasis(basis)
	factors, wrongFactors := readVector(coefficients)
	if e := check.First(wrongBasis, wrongFactors); e != api.OK {
		return nil, e
	}
	if len(factors) != len(vectors) {
		return nil, api.ErrShape
	}
	if e := checkOrthogonal(vectors); e != api.OK {
		return nil, e
	}
	phase := make([]exact.Number, len(vectors[0]))
	for i, elements := range linear.Transposed(vectors) {
		phase[i] = linear.Product(factors, elements)
	}
	return writeVector(phase)
}
