package sky

import (
	"slices"

	"lenslet/api"
	"lenslet/check"
	"lenslet/exact"
	"lenslet/grid"
	"lenslet/linear"
	"lenslet/number"
	"lenslet/place"
)

// readStars returns stars as numbers, or their first error.
func readStars(stars []Star) ([]star, api.Errno) {
	return check.AtMost(stars, api.MaxStars, readStar)
}

// readPlaces returns places as numbers, or their first error.
func readPlaces(places []api.Place) ([]place.Place, api.Errno) {
	return check.AtMost(places, MaxPlaces, place.Parse)
}

// checkSome returns ErrEmpty for a list without elements, and OK otherwise.
func checkSome[T any](list []T) api.Errno { return check.If(len(list) == 0, api.ErrEmpty) }

// sight is the layers that the rays of several stars pass.
type sight struct {
	layers []layer
	rays   []ray
}

// readSight returns layers and rays, star by star and from each place, or the first error.
func readSight(layers []Layer, stars []Star, places []api.Place, frame int) (sight, api.Errno) {
	met, wrongLayers := readLayers(layers)
	ends, wrongStars := readStars(stars)
	starts, wrongPlaces := readPlaces(places)
	e := check.First(
		checkSome(layers), wrongLayers,
		checkSome(stars), wrongStars,
		checkSome(places), wrongPlaces,
		checkFrame(frame),
	)
	if e != api.OK {
		return sight{}, e
	}
	var rays []ray
	for _, to := range ends {
		for _, from := range starts {
			rays = append(rays, ray{to, from, frame})
		}
	}
	return sight{met, rays}, api.OK
}

// columns returns the number of the cells of all layers.
func (s sight) columns() int {
	var n int
	for _, l := range s.layers {
		n += l.screen.side() * l.screen.side()
	}
	return n
}

// weights returns the weight of each cell of a layer in the value that a ray meets.
func (r ray) weights(l layer) map[grid.Cell]exact.Number {
	sums := map[grid.Cell]exact.Number{}
	if r.to.isAbove(l.height) {
		for _, share := range l.screen.around(r.position(l)) {
			sums[share.cell] = sums[share.cell].Add(share.weight)
		}
	}
	return sums
}

// row returns the row of a ray in the matrix.
func (s sight) row(r ray) ([]api.Rat, api.Errno) {
	var row []exact.Number
	for _, l := range s.layers {
		weights := r.weights(l)
		for c := range l.screen.cells() {
			row = append(row, l.strength.Mul(weights[c]))
		}
	}
	return check.Each(row, exact.Number.Rat)
}

// Matrix returns the matrix from the cells of all layers to the phases of all stars.
func Matrix(layers []Layer, stars []Star, places []api.Place, frame int) ([][]api.Rat, api.Errno) {
	s, e := readSight(layers, stars, places, frame)
	switch {
	case e != api.OK:
		return nil, e
	case max(len(s.rays), s.columns()) > api.MaxSlopes:
		return nil, api.ErrLimit
	}
	return check.Each(s.rays, s.row)
}

// problem is the matrix, the phases and the load of a tomography.
type problem struct {
	matrix [][]exact.Number
	phases []exact.Number
	load   exact.Number
}

// equations returns the equations of the cells x and of what they leave of the phases, r: m x + r is
// the phases, and m' r - load x is 0. Their numbers are shorter than those of m' m.
func (p problem) equations() (matrix [][]exact.Number, right []exact.Number) {
	rows, columns := len(p.matrix), len(p.matrix[0])
	for i, row := range p.matrix {
		equation := make([]exact.Number, columns+rows)
		copy(equation, row)
		equation[columns+i] = exact.Of(1, 1)
		matrix = append(matrix, equation)
	}
	for j, column := range linear.Columns(p.matrix) {
		equation := make([]exact.Number, columns+rows)
		equation[j] = p.load.Neg()
		copy(equation[columns:], column)
		matrix = append(matrix, equation)
	}
	return matrix, append(slices.Clone(p.phases), make([]exact.Number, columns)...)
}

// isSolvedBy reports whether the gradient of the sum that is to be least is 0 at a list of cells.
func (p problem) isSolvedBy(cells []exact.Number) bool {
	left := make([]exact.Number, len(p.phases))
	for i, phase := range linear.Apply(p.matrix, cells) {
		left[i] = p.phases[i].Sub(phase)
	}
	for j, column := range linear.Columns(p.matrix) {
		if !linear.Product(column, left).Equal(p.load.Mul(cells[j])) {
			return false
		}
	}
	return true
}

// solve returns the tomography, or ErrLarge. There is always a single one, as the load is above 0.
func (p problem) solve() ([]api.Rat, api.Errno) {
	matrix, right := p.equations()
	cells, short := linear.Candidate(matrix, right, len(p.matrix[0]), api.MaxDigits)
	if !short || !p.isSolvedBy(cells) {
		return nil, api.ErrLarge
	}
	return check.Each(cells, exact.Number.Rat)
}

// readMatrix returns the numbers of a matrix, or its first error.
func readMatrix(m [][]api.Rat) ([][]exact.Number, api.Errno) {
	if e := number.CheckMatrix(m); e != api.OK {
		return nil, e
	}
	return check.Rows(m, len(m[0]), exact.Parse)
}

// Tomography returns the cells that explain phases best, with a load.
func Tomography(matrix [][]api.Rat, phases []api.Rat, load api.Rat) ([]api.Rat, api.Errno) {
	m, wrongMatrix := readMatrix(matrix)
	right, wrongPhases := check.Each(phases, exact.Parse)
	added, wrongLoad := exact.ParsePositive(load)
	e := check.First(
		wrongMatrix,
		wrongPhases,
		wrongLoad,
		check.If(len(right) != len(m), api.ErrShape),
	)
	if e != api.OK {
		return nil, e
	}
	return problem{m, right, added}.solve()
}
