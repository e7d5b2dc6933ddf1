package reconstruct

import (
	"lenslet/api"
	"lenslet/check"
	"lenslet/exact"
	"lenslet/linear"
)

// readWeighted returns an interaction matrix and a weight for each of its slopes, or their first error.
func readWeighted(d [][]api.Rat, weights []api.Rat) ([][]exact.Number, []exact.Number, api.Errno) {
	numbers, e := readInteraction(d)
	if e != api.OK {
		return nil, nil, e
	}
	factors, e := readWeights(weights, numbers)
	return numbers, factors, e
}

// weighted returns the columns of a matrix, times weights.
func weighted(m [][]exact.Number, weights []exact.Number) [][]exact.Number {
	var rows [][]exact.Number
	for _, column := range linear.Columns(m) {
		rows = append(rows, products(column, weights))
	}
	return rows
}

// fit returns the matrix whose product with any slopes is the list x for which the cost of slopes less
// m x, plus x times the penalty times x, is least, and whether there is only one.
func fit(m [][]exact.Number, weights []exact.Number, penalty [][]exact.Number) ([][]exact.Number, bool) {
	equations := linear.Multiply(weighted(m, weights), m)
	for k, row := range penalty {
		equations[k] = pairwise(equations[k], row, exact.Number.Add)
	}
	// The weights of the right side are left out until all is solved, so that it has fewer denominators.
	rows, single := linear.Quotient(equations, linear.Transposed(m))
	for k, row := range rows {
		rows[k] = products(row, weights)
	}
	return rows, single
}

// commands returns the matrix whose product with any slopes is the command of the controlled space for
// which the cost plus the damping times the sum of the squares is least.
func commands(d [][]exact.Number, weights []exact.Number, damping exact.Number) [][]exact.Number {
	basis := controlled(d)
	modes := linear.Transposed(basis)
	var penalty [][]exact.Number
	if damping.Sign() > 0 {
		for _, row := range linear.Multiply(basis, modes) {
			penalty = append(penalty, scaled(row, damping))
		}
	}
	// No mode of the basis is blind, so that there is only one list of coefficients for all slopes.
	rows, _ := fit(linear.Multiply(d, modes), weights, penalty)
	all := make([][]exact.Number, len(d[0]))
	for i := range all {
		var shares []exact.Number
		for _, mode := range basis {
			shares = append(shares, mode[i])
		}
		all[i] = composed(rows, shares, len(d))
	}
	return all
}

// Reconstructor returns the matrix of the least-squares commands of minimum norm.
func Reconstructor(d [][]api.Rat, weights []api.Rat) ([][]api.Rat, api.Errno) {
	numbers, factors, e := readWeighted(d, weights)
	if e != api.OK {
		return nil, e
	}
	return writeRows(commands(numbers, factors, exact.Number{}))
}

// proof says what is proved of a matrix that may be the reconstructor.
type proof struct {
	least  bool // no command has a lesser cost
	inside bool // all commands are in the controlled space
}

// prove returns what is proved of a matrix.
func prove(d [][]exact.Number, weights []exact.Number, r [][]exact.Number) proof {
	right := weighted(d, weights)
	left := linear.Multiply(linear.Multiply(right, d), r)
	p := proof{least: equal(left, right), inside: true}
	blind := linear.Kernel(d)
	for _, command := range linear.Columns(r) {
		p.inside = p.inside && isZero(linear.Apply(blind, command))
	}
	return p
}

// CheckReconstructor returns OK for the reconstructor.
func CheckReconstructor(d [][]api.Rat, weights []api.Rat, r [][]api.Rat) api.Errno {
	numbers, factors, e := readWeighted(d, weights)
	if e != api.OK {
		return e
	}
	if len(r) != len(numbers[0]) {
		return api.ErrShape
	}
	rows, e := check.Each(r, size{len(r), len(numbers)}.readRow)
	if e != api.OK {
		return e
	}
	proved := proof{least: true, inside: true}
	return check.If(prove(numbers, factors, rows) != proved, api.ErrProof)
}

// Modal returns the modal reconstructor.
func Modal(d [][]api.Rat, weights []api.Rat, modes [][]api.Rat) ([][]api.Rat, api.Errno) {
	numbers, factors, e := readWeighted(d, weights)
	if e != api.OK {
		return nil, e
	}
	vectors, e := readModes(modes, len(numbers[0]))
	if e != api.OK {
		return nil, e
	}
	rows, independent := fit(linear.Multiply(numbers, linear.Transposed(vectors)), factors, nil)
	if !independent {
		return nil, api.ErrSingular
	}
	return writeRows(rows)
}

// Damped returns the damped reconstructor.
func Damped(d [][]api.Rat, weights []api.Rat, damping api.Rat) ([][]api.Rat, api.Errno) {
	numbers, factors, e := readWeighted(d, weights)
	if e != api.OK {
		return nil, e
	}
	added, e := exact.ParsePositive(damping)
	if e != api.OK {
		return nil, e
	}
	// A blind part would add to the squares and leave the cost as it is.
	return writeRows(commands(numbers, factors, added))
}
