package pupil

import (
	"lenslet/api"
	"lenslet/check"
	"lenslet/exact"
	"lenslet/grid"
	"lenslet/linear"
	"lenslet/total"
)

// mean returns the mean of numbers, of which there is at least one.
func mean(list []exact.Number) exact.Number {
	return total.Of(list, exact.Number.Add).Quo(exact.Of(len(list), 1))
}

// readPhase returns the elements of a phase, of which there is at least one, or its first error.
func readPhase(phase []api.Rat) ([]exact.Number, api.Errno) {
	values, e := readVector(phase)
	return values, check.First(e, check.If(len(phase) == 0, api.ErrEmpty))
}

// Flattened returns a phase without its piston, and the piston.
func Flattened(phase []api.Rat) ([]api.Rat, api.Rat, api.Errno) {
	values, e := readPhase(phase)
	if e != api.OK {
		return nil, "", e
	}
	middle := mean(values)
	piston, e := middle.Rat()
	if e != api.OK {
		return nil, "", e
	}
	flat, e := check.Each(values, func(x exact.Number) (api.Rat, api.Errno) { return x.Sub(middle).Rat() })
	if e != api.OK {
		return nil, "", e
	}
	return flat, piston, api.OK
}

// Variance returns the variance of a phase.
func Variance(phase []api.Rat) (api.Rat, api.Errno) {
	values, e := readPhase(phase)
	if e != api.OK {
		return "", e
	}
	middle := mean(values)
	squares := linear.Product(values, values).Quo(exact.Of(len(values), 1))
	return squares.Sub(middle.Mul(middle)).Rat()
}

// square is a square of cells.
type square struct {
	corner grid.Cell
	side   int
}

// has reports whether a cell is in the square.
func (s square) has(c grid.Cell) bool {
	from := c.Minus(s.corner)
	return from.Column >= 0 && from.Column < s.side && from.Row >= 0 && from.Row < s.side
}

// checkSquare returns the first error of a corner and a side on a grid of a size, or OK.
func checkSquare(corner [2]int, side, size int) api.Errno {
	return check.First(
		check.Range(corner[0], 0, size-1),
		check.Range(corner[1], 0, size-1),
		check.Range(side, 1, size-max(corner[0], corner[1])),
	)
}

// meanOver returns the mean of the values of a polynomial at the centres of cells. The means of its
// products of powers have small denominators, so that the large numbers are added only once.
func (d disc) meanOver(cells []grid.Cell, f polynomial) exact.Number {
	parts := make([]exact.Number, len(f))
	for k, t := range f {
		parts[k] = t.c.Mul(mean(d.sampled(monomial(1, t.at.x, t.at.y), cells)))
	}
	return total.Of(parts, exact.Number.Add)
}

// Slopes returns the mean slopes of a polynomial over the cells in the pupil of a square of cells.
func Slopes(p Pupil, f Poly, corner [2]int, side int) ([2]api.Rat, api.Errno) {
	d, wrongPupil := readPupil(p)
	terms, wrongPoly := readPoly(f)
	if e := check.First(wrongPupil, wrongPoly, checkSquare(corner, side, p.Size)); e != api.OK {
		return [2]api.Rat{}, e
	}
	var cells []grid.Cell
	area := square{grid.At(corner[0], corner[1]), side}
	for c := range d.cells() {
		if area.has(c) {
			cells = append(cells, c)
		}
	}
	if len(cells) == 0 {
		return [2]api.Rat{}, api.ErrNone
	}
	var slopes [2]api.Rat
	for axis, derivative := range [2]polynomial{terms.byX(), terms.byY()} {
		slope, e := d.meanOver(cells, derivative).Rat()
		if e != api.OK {
			return [2]api.Rat{}, e
		}
		slopes[axis] = slope
	}
	return slopes, api.OK
}
