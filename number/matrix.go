package number

import (
	"lenslet/api"
	"lenslet/check"
	"lenslet/exact"
	"lenslet/linear"
)

// readMatrix returns the numbers of a matrix, or its first error.
func readMatrix(m [][]api.Rat) ([][]exact.Number, api.Errno) {
	if e := check.Count(len(m), api.MaxSlopes); e != api.OK {
		return nil, e
	}
	return check.Each(m, func(row []api.Rat) ([]exact.Number, api.Errno) {
		e := check.Count(len(row), api.MaxSlopes)
		if e == api.OK && len(row) != len(m[0]) {
			e = api.ErrShape
		}
		if e != api.OK {
			return nil, e
		}
		return check.Each(row, exact.Parse)
	})
}

// writeList returns the strings of numbers, or ErrLarge.
func writeList(list []exact.Number) ([]api.Rat, api.Errno) {
	return check.Each(list, exact.Number.Rat)
}

// CheckMatrix returns the first error of a matrix, or OK.
func CheckMatrix(m [][]api.Rat) api.Errno {
	_, e := readMatrix(m)
	return e
}

// Multiply returns the product of two matrices.
func Multiply(a, b [][]api.Rat) ([][]api.Rat, api.Errno) {
	x, wrongA := readMatrix(a)
	y, wrongB := readMatrix(b)
	if e := check.First(wrongA, wrongB); e != api.OK {
		return nil, e
	}
	if len(x[0]) != len(y) {
		return nil, api.ErrShape
	}
	columns := linear.Transposed(y)
	return check.Each(x, func(row []exact.Number) ([]api.Rat, api.Errno) {
		return check.Each(columns, func(column []exact.Number) (api.Rat, api.Errno) {
			return linear.Product(row, column).Rat()
		})
	})
}

// Solve returns the only solution of linear equations.
func Solve(m [][]api.Rat, b []api.Rat) ([]api.Rat, api.Errno) {
	x, wrongM := readMatrix(m)
	right, wrongB := check.Each(b, exact.Parse)
	if e := check.First(wrongM, wrongB); e != api.OK {
		return nil, e
	}
	if len(right) != len(x) {
		return nil, api.ErrShape
	}
	solution, single := linear.Solve(x, right)
	if !single {
		return nil, api.ErrSingular
	}
	return writeList(solution)
}

// Kernel returns the basis of the kernel of a matrix, in reduced echelon form.
func Kernel(m [][]api.Rat) ([][]api.Rat, api.Errno) {
	x, e := readMatrix(m)
	if e != api.OK {
		return nil, e
	}
	return check.Each(linear.Kernel(x), writeList)
}

// Rank returns the rank of a matrix.
func Rank(m [][]api.Rat) (int, api.Errno) {
	x, e := readMatrix(m)
	if e != api.OK {
		return 0, e
	}
	return linear.Reduced(x).Rank(), api.OK
}
