package draw_test

import (
	"math/big"
	"testing"

	"lenslet/draw"
)

func TestNext(t *testing.T) {
	x := 1
	for _, wanted := range []int{39373, 1550233129, 1548773083, 2044440394} {
		if x = draw.Next(x); x != wanted {
			t.Fatalf("Next: got %d, want %d", x, wanted)
		}
	}
	for _, key := range []int{2, 39373, 1 << 30, draw.MaxKey - 1, draw.MaxKey} {
		product := new(big.Int).Mul(big.NewInt(39373), big.NewInt(int64(key)))
		wanted := int(product.Mod(product, big.NewInt(2147483647)).Int64())
		if got := draw.Next(key); got != wanted {
			t.Errorf("Next of %d: got %d, want %d", key, got, wanted)
		}
	}
	if draw.MaxKey != 2147483646 {
		t.Errorf("MaxKey: %d", draw.MaxKey)
	}
}
