// Package check finds the first error of arguments.
package check

import "lenslet/api"

// First returns the first error, or OK if there is none.
func First(errors ...api.Errno) api.Errno {
	for _, e := range errors {
		if e != api.OK {
			return e
		}
	}
	return api.OK
}

// If returns an error if a condition holds, and OK otherwise.
func If(wrong bool, e api.Errno) api.Errno {
	if wrong {
		return e
	}
	return api.OK
}

// Each returns what a step makes of each element of a list, or the first error of a step.
func Each[T, R any](list []T, step func(T) (R, api.Errno)) ([]R, api.Errno) {
	results := make([]R, 0, len(list))
	for _, element := range list {
		result, e := step(element)
		if e != api.OK {
			return nil, e
		}
		results = append(results, result)
	}
	return results, api.OK
}
