package sample_test

import (
	"math"
	"math/big"
	"math/rand"
	"strings"
	"testing"

	"lenslet/api"
	"lenslet/exact"
	"lenslet/sample"
	"lenslet/whole"
)

// integer returns an integer of any size.
func integer(x *big.Int) whole.Int {
	n, _ := whole.Parse(x.String())
	return n
}

// number returns a number of any size.
func number(x *big.Rat) exact.Number { return exact.New(integer(x.Num()), integer(x.Denom())) }

// floats are floats at the ends of the subnormal and the normal ones, and random ones.
func floats() []float32 {
	random := rand.New(rand.NewSource(1))
	list := []float32{0, math.SmallestNonzeroFloat32, math.MaxFloat32, 1, 2.5, -3}
	for _, bits := range []uint32{2, 3, 0x007fffff, 0x00800000, 0x00800001, 0x00ffffff, 0x01000000, 0x7f7ffffe, 0x80000001, 0xff7fffff} {
		list = append(list, math.Float32frombits(bits))
	}
	for len(list) < 2000 {
		if f := math.Float32frombits(random.Uint32()); f-f == 0 {
			list = append(list, f)
		}
	}
	return list
}

func TestUnits(t *testing.T) {
	for _, f := range floats() {
		units, e := sample.Units(f)
		got, _ := sample.Number(units).Rat()
		wanted := new(big.Rat).SetFloat64(float64(f))
		if e != api.OK || string(got) != wanted.RatString() {
			t.Errorf("%v: got %s, error %d", f, got, e)
		}
		scaled := wanted.Mul(wanted, new(big.Rat).SetInt(new(big.Int).Lsh(big.NewInt(1), sample.UnitBits)))
		if units.Text() != scaled.RatString() {
			t.Errorf("%v: got %s units, want %s", f, units.Text(), scaled.RatString())
		}
	}
	if units, e := sample.Units(float32(math.Copysign(0, -1))); e != api.OK || units.Sign() != 0 || units.Text() != "0" {
		t.Errorf("-0: got %s, error %d", units.Text(), e)
	}
	for _, f := range []float64{math.NaN(), math.Inf(1), math.Inf(-1)} {
		if units, e := sample.Units(float32(f)); e != api.ErrForm || units.Sign() != 0 {
			t.Errorf("%v: got %s, error %d", f, units.Text(), e)
		}
	}
}

// TestNearest has floats, the middles between neighbours, and numbers beside both, which differ
// from them after more digits than the limits of api allow.
func TestNearest(t *testing.T) {
	beside := new(big.Rat).SetFrac(big.NewInt(1), new(big.Int).Exp(big.NewInt(10), big.NewInt(700), nil))
	for _, f := range floats() {
		near := new(big.Rat).SetFloat64(float64(f))
		next := new(big.Rat).SetFloat64(float64(math.Nextafter32(f, 0)))
		middle := new(big.Rat).Add(near, next)
		middle.Quo(middle, big.NewRat(2, 1))
		for _, x := range []*big.Rat{near, middle} {
			for _, y := range []*big.Rat{x, new(big.Rat).Add(x, beside), new(big.Rat).Sub(x, beside)} {
				wanted, _ := y.Float32()
				got, e := sample.Nearest(number(y))
				if e != api.OK || got != wanted || got == 0 && math.Signbit(float64(got)) {
					t.Errorf("beside %v: got %v, error %d, want %v", f, got, e, wanted)
				}
			}
		}
	}
}

func TestNearestAtTheEnd(t *testing.T) {
	// The middle between the greatest float and 2^128, which is the nearest even one.
	end := new(big.Rat).SetInt(new(big.Int).Sub(new(big.Int).Lsh(big.NewInt(1), 128), new(big.Int).Lsh(big.NewInt(1), 103)))
	below := new(big.Rat).Sub(end, big.NewRat(1, 3))
	far, _ := new(big.Rat).SetString("1" + strings.Repeat("0", 1000))
	for _, sign := range []*big.Rat{big.NewRat(1, 1), big.NewRat(-1, 1)} {
		for _, x := range []*big.Rat{end, far} {
			if f, e := sample.Nearest(number(new(big.Rat).Mul(x, sign))); e != api.ErrLarge || f != 0 {
				t.Errorf("got %v, error %d", f, e)
			}
		}
		s, _ := sign.Float32()
		if f, e := sample.Nearest(number(new(big.Rat).Mul(below, sign))); e != api.OK || f != s*math.MaxFloat32 {
			t.Errorf("got %v, error %d", f, e)
		}
	}
}

// doubles are float64 numbers at the ends of the subnormal and the normal ones, and random ones.
func doubles() []float64 {
	random := rand.New(rand.NewSource(2))
	list := []float64{0, math.SmallestNonzeroFloat64, math.MaxFloat64, -math.MaxFloat64, 1, 2.5, -3, 0.1}
	for _, bits := range []uint64{2, 3, 1<<52 - 1, 1 << 52, 1<<52 + 1, 1<<53 - 1, 1 << 53, 1<<63 + 1} {
		list = append(list, math.Float64frombits(bits))
	}
	for len(list) < 1000 {
		if f := math.Float64frombits(random.Uint64()); f-f == 0 {
			list = append(list, f)
		}
	}
	return list
}

func TestDouble(t *testing.T) {
	for _, f := range doubles() {
		got, e := sample.Double(f)
		if wanted := number(new(big.Rat).SetFloat64(f)); e != api.OK || !got.Equal(wanted) {
			t.Errorf("%v: got %v, error %d", f, got, e)
		}
	}
	if got, e := sample.Double(math.Copysign(0, -1)); e != api.OK || got.Sign() != 0 {
		t.Errorf("-0: got %v, error %d", got, e)
	}
	for _, f := range []float64{math.NaN(), math.Inf(1), math.Inf(-1)} {
		if got, e := sample.Double(f); e != api.ErrForm || got.Sign() != 0 {
			t.Errorf("%v: got %v, error %d", f, got, e)
		}
	}
}

// TestNearestDouble has floats, the middles between neighbours, and numbers beside both.
func TestNearestDouble(t *testing.T) {
	beside := new(big.Rat).SetFrac(big.NewInt(1), new(big.Int).Exp(big.NewInt(10), big.NewInt(1000), nil))
	for _, f := range doubles() {
		near := new(big.Rat).SetFloat64(f)
		middle := new(big.Rat).Add(near, new(big.Rat).SetFloat64(math.Nextafter(f, 0)))
		middle.Quo(middle, big.NewRat(2, 1))
		for _, x := range []*big.Rat{near, middle} {
			for _, y := range []*big.Rat{x, new(big.Rat).Add(x, beside), new(big.Rat).Sub(x, beside)} {
				wanted, _ := y.Float64()
				got, e := sample.NearestDouble(number(y))
				if e != api.OK || got != wanted || got == 0 && math.Signbit(got) {
					t.Errorf("beside %v: got %v, error %d, want %v", f, got, e, wanted)
				}
			}
		}
	}
	// The middle between the greatest float and 2^1024, which is the nearest even one.
	end := new(big.Rat).SetInt(new(big.Int).Sub(new(big.Int).Lsh(big.NewInt(1), 1024), new(big.Int).Lsh(big.NewInt(1), 970)))
	for _, x := range []*big.Rat{end, new(big.Rat).Neg(end), new(big.Rat).Mul(end, end)} {
		if f, e := sample.NearestDouble(number(x)); e != api.ErrLarge || f != 0 {
			t.Errorf("got %v, error %d", f, e)
		}
	}
	if f, e := sample.NearestDouble(number(new(big.Rat).Sub(end, beside))); e != api.OK || f != math.MaxFloat64 {
		t.Errorf("got %v, error %d", f, e)
	}
}
