// Package check finds the first error of arguments.
package check

import "lenslet/api"

// First returns the first error, or OK if there is none.
func First(errors ...api.Errno) api.Errno {
	for _, e := range errors {
		if e != api.OK {
			return e
		}
	}
	return api.OK
}

// If returns an error if a condition holds, and OK otherwise.
func If(wrong bool, e api.Errno) api.Errno {
	if wrong {
		return e
	}
	return api.OK
}

// Count returns the error of a number of elements of which there have to be some, or OK.
func Count(n, most int) api.Errno {
	return First(
		If(n == 0, api.ErrEmpty),
		If(n > most, api.ErrMany),
	)
}

// Range returns ErrRange if an integer is not from a least to a greatest one, and OK otherwise.
func Range(n, least, most int) api.Errno { return If(n < least || n > most, api.ErrRange) }

// Each returns what a step makes of each element of a list, or the first error of a step.
func Each[T, R any](list []T, step func(T) (R, api.Errno)) ([]R, api.Errno) {
	results := make([]R, 0, len(list))
	for _, element := range list {
		result, e := step(element)
		if e != api.OK {
			return nil, e
		}
		results = append(results, result)
	}
	return results, api.OK
}

// AtMost returns what a step makes of each element of a list, or the first error: ErrMany if there
// are too many elements, then that of a step.
func AtMost[T, R any](list []T, most int, step func(T) (R, api.Errno)) ([]R, api.Errno) {
	if len(list) > most {
		return nil, api.ErrMany
	}
	return Each(list, step)
}

// Rows returns what a step makes of each element of rows, or the first error, row by row: ErrShape
// if a row does not have as many elements as told, then that of a step.
func Rows[T, R any](rows [][]T, width int, step func(T) (R, api.Errno)) ([][]R, api.Errno) {
	return Each(rows, func(row []T) ([]R, api.Errno) {
		if len(row) != width {
			return nil, api.ErrShape
		}
		return Each(row, step)
	})
}
