// Package total joins the elements of lists.
package total

// Of joins the elements of a list in their order, from the zero value on, which has to change nothing.
func Of[T any](list []T, join func(T, T) T) T {
	var all T
	for _, x := range list {
		all = join(all, x)
	}
	return all
}

// Products returns the sum of the products of the elements of two lists of the same length, from the
// zero value on, which added has to change nothing.
func Products[T any](a, b []T, times, plus func(T, T) T) T {
	var sum T
	for i, x := range a {
		sum = plus(sum, times(x, b[i]))
	}
	return sum
}
