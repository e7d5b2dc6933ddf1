package number

import "lenslet/api"

// The generator of the permutation: each value is the one before times the factor, modulo the modulus.
const (
	drawFactor  = 39373
	drawModulus = 2147483647
)

// Draw returns a pseudorandom permutation of n elements.
func Draw(key, n int) ([]int, api.Errno) {
	if key < 1 || key >= drawModulus || n < 0 || n > api.MaxList {
		return nil, api.ErrRange
	}
	list := make([]int, n)
	for i := range list {
		list[i] = i
	}
	x := int64(key)
	for i := n - 1; i >= 1; i-- {
		x = drawFactor * x % drawModulus
		j := int(x % int64(i+1))
		list[i], list[j] = list[j], list[i]
	}
	return list, api.OK
}
