package reconstruct

import (
	"slices"

	"lenslet/api"
	"lenslet/check"
	"lenslet/exact"
	"lenslet/linear"
)

// isZero reports whether all numbers are 0.
func isZero(list []exact.Number) bool {
	return !slices.ContainsFunc(list, func(x exact.Number) bool { return x.Sign() != 0 })
}

// equal reports whether two matrices have the same numbers.
func equal(a, b [][]exact.Number) bool {
	return slices.EqualFunc(a, b, func(x, y []exact.Number) bool {
		return slices.EqualFunc(x, y, exact.Number.Equal)
	})
}

// controlled returns the controlled basis of a matrix.
func controlled(d [][]exact.Number) [][]exact.Number { return linear.Reduced(d).Rows() }

// seen returns the seen part of a command, which is its projection on the controlled space.
func seen(d [][]exact.Number, command []exact.Number) []exact.Number {
	basis := controlled(d)
	products := linear.Multiply(basis, linear.Transposed(basis))
	coefficients, _ := linear.Solve(products, linear.Apply(basis, command))
	return composed(basis, coefficients, len(command))
}

// Rank returns the rank of a matrix.
func Rank(d [][]api.Rat) (int, api.Errno) {
	numbers, e := readInteraction(d)
	if e != api.OK {
		return 0, e
	}
	return linear.Reduced(numbers).Rank(), api.OK
}

// Unseen returns the actuators that no slope sees.
func Unseen(d [][]api.Rat) ([]int, api.Errno) {
	numbers, e := readInteraction(d)
	if e != api.OK {
		return nil, e
	}
	var actuators []int
	for k, column := range linear.Columns(numbers) {
		if isZero(column) {
			actuators = append(actuators, k)
		}
	}
	return actuators, api.OK
}

// Blind returns the blind basis.
func Blind(d [][]api.Rat) ([][]api.Rat, api.Errno) {
	numbers, e := readInteraction(d)
	if e != api.OK {
		return nil, e
	}
	return writeRows(linear.Kernel(numbers))
}

// CheckBlind returns OK for the blind basis.
func CheckBlind(d, basis [][]api.Rat) api.Errno {
	numbers, e := readInteraction(d)
	if e != api.OK {
		return e
	}
	if len(basis) > api.MaxActuators {
		return api.ErrMany
	}
	vectors, e := check.Each(basis, size{len(basis), len(numbers[0])}.readRow)
	if e != api.OK {
		return e
	}
	return check.If(!equal(vectors, linear.Kernel(numbers)), api.ErrProof)
}

// Controlled returns the controlled basis.
func Controlled(d [][]api.Rat) ([][]api.Rat, api.Errno) {
	numbers, e := readInteraction(d)
	if e != api.OK {
		return nil, e
	}
	return writeRows(controlled(numbers))
}

// Split returns the seen and the blind part of a command.
func Split(d [][]api.Rat, command []api.Rat) ([]api.Rat, []api.Rat, api.Errno) {
	numbers, e := readInteraction(d)
	if e != api.OK {
		return nil, nil, e
	}
	whole, e := readList(command, len(numbers[0]))
	if e != api.OK {
		return nil, nil, e
	}
	part := seen(numbers, whole)
	seenPart, wrongSeen := writeList(part)
	blindPart, wrongBlind := writeList(differences(whole, part))
	if e := check.First(wrongSeen, wrongBlind); e != api.OK {
		return nil, nil, e
	}
	return seenPart, blindPart, api.OK
}
