// Package linear solves linear equations with exact numbers. A matrix is a list of rows that have
// equally many numbers.
package linear

import (
	"iter"
	"slices"

	"lenslet/exact"
	"lenslet/total"
	"lenslet/whole"
)

// Echelon is a matrix in reduced echelon form, without its rows of zeros, in which all pivots are
// the same integer instead of 1.
type Echelon struct {
	rows   [][]whole.Int
	pivot  whole.Int
	pivots []int
}

// Reduced returns the reduced echelon form of a matrix.
func Reduced(m [][]exact.Number) Echelon {
	e := Echelon{rows: make([][]whole.Int, len(m)), pivot: whole.Of(1)}
	for i, row := range m {
		e.rows[i], _ = withoutFractions(row)
	}
	if len(m) == 0 {
		return e
	}
columns:
	for column := range m[0] {
		for row := len(e.pivots); row < len(e.rows); row++ {
			if e.rows[row][column].Sign() != 0 {
				e.eliminate(row, column)
				continue columns
			}
		}
	}
	e.rows = e.rows[:len(e.pivots)]
	return e
}

// withoutFractions returns the smallest multiple of a row that consists of integers, and the
// factor that makes it the row again.
func withoutFractions(row []exact.Number) ([]whole.Int, exact.Number) {
	common := exact.Common(row)
	integers := make([]whole.Int, len(row))
	for i, x := range row {
		integers[i] = x.Above().Mul(common.Quo(x.Below()))
	}
	content := primitive(integers)
	return integers, exact.New(content, common)
}

// primitive divides integers by their greatest common divisor, and returns it; it is 1 if all are 0.
func primitive(integers []whole.Int) whole.Int {
	var content whole.Int
	for _, x := range integers {
		content = whole.Divisor(content, x)
	}
	content = orOne(content)
	for i, x := range integers {
		integers[i] = x.Quo(content)
	}
	return content
}

// orOne returns an integer that is at least 0, and 1 for 0.
func orOne(a whole.Int) whole.Int {
	if a.Sign() == 0 {
		return whole.Of(1)
	}
	return a
}

// eliminate makes a column the next one with a pivot, from a row without one that is not 0 there.
// All numbers remain integers, minors of the matrix (Bareiss), so that they stay small.
func (e *Echelon) eliminate(from, column int) {
	next := len(e.pivots)
	e.rows[next], e.rows[from] = e.rows[from], e.rows[next]
	base := make([]whole.Int, len(e.rows[next]))
	copy(base, e.rows[next])
	combine := func(row []whole.Int) []whole.Int {
		combined := make([]whole.Int, len(row))
		for j, x := range row {
			combined[j] = base[column].Mul(x).Sub(row[column].Mul(base[j])).Quo(e.pivot)
		}
		return combined
	}
	for i, row := range e.rows {
		if i != next {
			e.rows[i] = combine(row)
		}
	}
	e.pivot = base[column]
	e.pivots = append(e.pivots, column)
}

// Rank returns the number of rows that are not 0.
func (e Echelon) Rank() int { return len(e.pivots) }

// At returns a number of the reduced echelon form, in which the pivots are 1.
func (e Echelon) At(row, column int) exact.Number {
	return exact.New(e.rows[row][column], e.pivot)
}

// Rows returns the rows of the reduced echelon form, in which the pivots are 1.
func (e Echelon) Rows() [][]exact.Number {
	rows := make([][]exact.Number, e.Rank())
	for i := range e.Rank() {
		rows[i] = make([]exact.Number, len(e.rows[i]))
		for j := range rows[i] {
			rows[i][j] = e.At(i, j)
		}
	}
	return rows
}

// Quotient returns the only matrix that a matrix, as the left factor, makes the right side, which
// has as many rows, and whether there is exactly one.
func Quotient(m, right [][]exact.Number) ([][]exact.Number, bool) {
	if len(m) == 0 {
		return nil, false
	}
	unknowns := len(m[0])
	joined := make([][]exact.Number, len(m))
	for i, row := range m {
		joined[i] = slices.Concat(row, right[i])
	}
	e := Reduced(joined)
	// A pivot in a column of the right side is an equation 0 = 1.
	if e.Rank() != unknowns || unknowns > 0 && e.pivots[unknowns-1] >= unknowns {
		return nil, false
	}
	solution := make([][]exact.Number, unknowns)
	for i, row := range e.Rows() {
		solution[i] = row[unknowns:]
	}
	return solution, true
}

// Solve returns the only list whose product with a matrix is the right side, which has a number
// for each row, and whether there is exactly one.
func Solve(m [][]exact.Number, right []exact.Number) ([]exact.Number, bool) {
	column := Transposed([][]exact.Number{right})
	rows, single := Quotient(m, column)
	if !single {
		return nil, false
	}
	return slices.Concat(rows...), true
}

// Kernel returns the basis, in reduced echelon form, of the lists whose product with a matrix is 0.
func Kernel(m [][]exact.Number) [][]exact.Number {
	if len(m) == 0 {
		return nil
	}
	columns := len(m[0])
	// With the columns in reverse, each free column depends on pivots further to the right alone:
	// the basis is in echelon form from the left.
	reversed := make([][]exact.Number, len(m))
	for i, row := range m {
		reversed[i] = make([]exact.Number, columns)
		for j, x := range row {
			reversed[i][columns-1-j] = x
		}
	}
	e := Reduced(reversed)
	rowOf := map[int]int{}
	for i, column := range e.pivots {
		rowOf[columns-1-column] = i
	}
	var basis [][]exact.Number
	for free := range columns {
		if _, bound := rowOf[free]; bound {
			continue
		}
		vector := make([]exact.Number, columns)
		for j := range vector {
			if i, bound := rowOf[j]; bound {
				vector[j] = e.At(i, columns-1-free).Neg()
			}
		}
		vector[free] = exact.Of(1, 1)
		basis = append(basis, vector)
	}
	return basis
}

// Columns visits the columns of a matrix, with their numbers.
func Columns[T any](m [][]T) iter.Seq2[int, []T] {
	return func(yield func(int, []T) bool) {
		if len(m) == 0 {
			return
		}
		for j := range m[0] {
			column := make([]T, len(m))
			for i, row := range m {
				column[i] = row[j]
			}
			if !yield(j, column) {
				return
			}
		}
	}
}

// Transposed returns a matrix with rows and columns exchanged.
func Transposed[T any](m [][]T) [][]T {
	var columns [][]T
	for _, column := range Columns(m) {
		columns = append(columns, column)
	}
	return columns
}

// Product returns the sum of the products of the elements of two lists of the same length.
func Product(a, b []exact.Number) exact.Number {
	return total.Products(a, b, exact.Number.Mul, exact.Number.Add)
}

// Apply returns the product of a matrix and a list.
func Apply(m [][]exact.Number, list []exact.Number) []exact.Number {
	product := make([]exact.Number, len(m))
	for i, row := range m {
		product[i] = Product(row, list)
	}
	return product
}

// Multiply returns the product of two matrices.
func Multiply(a, b [][]exact.Number) [][]exact.Number {
	product := make([][]exact.Number, len(a))
	for _, column := range Columns(b) {
		for i, row := range a {
			product[i] = append(product[i], Product(row, column))
		}
	}
	return product
}

// Orthogonal returns each row less its projections on the results of the rows before it, and
// whether none of them is 0.
func Orthogonal(m [][]exact.Number) ([][]exact.Number, bool) {
	results := make([][]exact.Number, len(m))
	// A projection depends only on the direction of a vector. Directions are vectors of integers,
	// without the common divisors that would make exact numbers slow.
	var directions [][]whole.Int
	for k, row := range m {
		integers, scale := withoutFractions(row)
		direction := integers
		for _, before := range directions {
			direction = upright(direction, before)
		}
		square := integerProduct(direction, direction)
		if square.Sign() == 0 {
			return nil, false
		}
		directions = append(directions, direction)
		scale = scale.Mul(exact.New(integerProduct(integers, direction), square))
		results[k] = make([]exact.Number, len(row))
		for i, x := range direction {
			results[k][i] = scale.Mul(exact.Whole(x))
		}
	}
	return results, true
}

// upright returns the direction of a vector less its projection on another one.
func upright(v, base []whole.Int) []whole.Int {
	along, square := integerProduct(v, base), integerProduct(base, base)
	rest := make([]whole.Int, len(v))
	for i, x := range v {
		rest[i] = x.Mul(square).Sub(base[i].Mul(along))
	}
	primitive(rest)
	return rest
}

// integerProduct returns the sum of the products of the elements of two lists of the same length.
func integerProduct(a, b []whole.Int) whole.Int {
	return total.Products(a, b, whole.Int.Mul, whole.Int.Add)
}
