package reconstruct

import (
	"slices"

	"lenslet/api"
	"lenslet/check"
	"lenslet/exact"
	"lenslet/linear"
)

// composed returns the sum of coefficients times modes with so many numbers.
func composed(modes [][]exact.Number, coefficients []exact.Number, n int) []exact.Number {
	sum := make([]exact.Number, n) // also where there are no modes
	for i, column := range linear.Columns(modes) {
		sum[i] = linear.Product(column, coefficients)
	}
	return sum
}

// pairwise returns what an operation makes of each two elements of two lists of the same length.
func pairwise(a, b []exact.Number, operation func(x, y exact.Number) exact.Number) []exact.Number {
	results := make([]exact.Number, len(a))
	for i, x := range a {
		results[i] = operation(x, b[i])
	}
	return results
}

// differences returns the numbers of a list less those of another one.
func differences(a, b []exact.Number) []exact.Number { return pairwise(a, b, exact.Number.Sub) }

// products returns the numbers of a list times those of another one.
func products(a, b []exact.Number) []exact.Number { return pairwise(a, b, exact.Number.Mul) }

// scaled returns numbers times a factor.
func scaled(list []exact.Number, factor exact.Number) []exact.Number {
	return products(list, slices.Repeat([]exact.Number{factor}, len(list)))
}

// squares returns the sum of the squares of numbers times factors.
func squares(list, factors []exact.Number) exact.Number {
	return linear.Product(products(list, list), factors)
}

// readFactors returns a matrix of any size, and a number for each column, or their first error.
func readFactors(m [][]api.Rat, list []api.Rat, read reader) ([][]exact.Number, []exact.Number, api.Errno) {
	numbers, e := readMatrix(m, size{api.MaxSlopes, api.MaxSlopes})
	if e != api.OK {
		return nil, nil, e
	}
	factors, e := readBy(list, len(numbers[0]), read)
	return numbers, factors, e
}

// Apply returns the product of a matrix and a list.
func Apply(m [][]api.Rat, list []api.Rat) ([]api.Rat, api.Errno) {
	numbers, factors, e := readFactors(m, list, exact.Parse)
	if e != api.OK {
		return nil, e
	}
	return writeList(linear.Apply(numbers, factors))
}

// Noise returns the variance of each row of a product with independent errors.
func Noise(m [][]api.Rat, variances []api.Rat) ([]api.Rat, api.Errno) {
	numbers, factors, e := readFactors(m, variances, exact.ParseUnsigned)
	if e != api.OK {
		return nil, e
	}
	return check.Each(numbers, func(row []exact.Number) (api.Rat, api.Errno) {
		return squares(row, factors).Rat()
	})
}

// Compose returns the sum of coefficients times modes.
func Compose(modes [][]api.Rat, coefficients []api.Rat) ([]api.Rat, api.Errno) {
	if e := check.Count(len(modes), api.MaxModes); e != api.OK {
		return nil, e
	}
	actuators := len(modes[0])
	if e := check.Count(actuators, api.MaxActuators); e != api.OK {
		return nil, e
	}
	vectors, e := readModes(modes, actuators)
	if e != api.OK {
		return nil, e
	}
	factors, e := readList(coefficients, len(vectors))
	if e != api.OK {
		return nil, e
	}
	return writeList(composed(vectors, factors, actuators))
}

// residual returns the residual of slopes and a command.
func residual(d [][]exact.Number, slopes, command []exact.Number) []exact.Number {
	return differences(slopes, linear.Apply(d, command))
}

// Residual returns the residual of slopes and a command.
func Residual(d [][]api.Rat, slopes, command []api.Rat) ([]api.Rat, api.Errno) {
	numbers, e := readInteraction(d)
	if e != api.OK {
		return nil, e
	}
	measured, wrongSlopes := readList(slopes, len(numbers))
	moved, wrongCommand := readList(command, len(numbers[0]))
	if e := check.First(wrongSlopes, wrongCommand); e != api.OK {
		return nil, e
	}
	return writeList(residual(numbers, measured, moved))
}

// Cost returns the weighted sum of the squares of the residual.
func Cost(d [][]api.Rat, weights, slopes, command []api.Rat) (api.Rat, api.Errno) {
	numbers, e := readInteraction(d)
	if e != api.OK {
		return "", e
	}
	factors, wrongWeights := readWeights(weights, numbers)
	measured, wrongSlopes := readList(slopes, len(numbers))
	moved, wrongCommand := readList(command, len(numbers[0]))
	if e := check.First(wrongWeights, wrongSlopes, wrongCommand); e != api.OK {
		return "", e
	}
	return squares(residual(numbers, measured, moved), factors).Rat()
}
