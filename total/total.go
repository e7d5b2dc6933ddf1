// Package total joins the elements of lists.
package total

// Of joins the elements of a list in their order, from the zero value on, which has to change nothing.
func Of[T any](list []T, join func(T, T) T) T {
	var all T
	for _, x := range list {
		all = join(all, x)
	}
	return all
}
