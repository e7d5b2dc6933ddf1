package number

import (
	"lenslet/api"
	"lenslet/draw"
)

// Draw returns a pseudorandom permutation of n elements.
func Draw(key, n int) ([]int, api.Errno) {
	if key < 1 || key > draw.MaxKey || n < 0 || n > api.MaxList {
		return nil, api.ErrRange
	}
	list := make([]int, n)
	for i := range list {
		list[i] = i
	}
	x := key
	for i := n - 1; i >= 1; i-- {
		x = draw.Next(x)
		j := x % (i + 1)
		list[i], list[j] = list[j], list[i]
	}
	return list, api.OK
}
