package number_test

import (
	"math/big"
	"testing"

	"lenslet/api"
	"lenslet/number"
)

// P1.6

// permutation follows the definition with integers that cannot overflow.
func permutation(key, n int) []int {
	var list []int
	for i := range n {
		list = append(list, i)
	}
	x, factor, modulus := big.NewInt(int64(key)), big.NewInt(39373), big.NewInt(2147483647)
	for i := n - 1; i > 0; i-- {
		x.Mod(x.Mul(x, factor), modulus)
		j := int(new(big.Int).Mod(x, big.NewInt(int64(i+1))).Int64())
		list[i], list[j] = list[j], list[i]
	}
	return list
}

func TestDraw(t *testing.T) {
	for _, key := range []int{1, 2, 3, 17, 39373, 99991, 1 << 30, 2147483645, 2147483646} {
		for _, n := range []int{0, 1, 2, 3, 4, 5, 10, 100, 255, 256} {
			want(t, "Draw", both(number.Draw(key, n)), is(permutation(key, n)))
		}
	}
	want(t, "Draw of 3 by 1", both(number.Draw(1, 3)), is([]int{0, 2, 1}))
}

func TestDrawOutOfRange(t *testing.T) {
	for _, row := range [][2]int{{0, 3}, {-1, 3}, {2147483647, 3}, {1 << 40, 3}, {-1 << 63, 3}, {1<<63 - 1, 3}, {1, -1}, {1, 257}, {1, -1 << 63}, {1, 1<<63 - 1}, {0, -1}} {
		want(t, "Draw", both(number.Draw(row[0], row[1])), fails[[]int](api.ErrRange))
	}
}
