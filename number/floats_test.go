package number_test

import (
	"math"
	"math/big"
	"math/rand"
	"testing"

	"lenslet/api"
	"lenslet/number"
)

// P1.4

// notFloats are the float32 values that are not floats.
func notFloats() []float32 {
	return []float32{float32(math.NaN()), -float32(math.NaN()), float32(math.Inf(1)), float32(math.Inf(-1)), math.Float32frombits(0x7f800001), math.Float32frombits(0xffffffff)}
}

// edgeFloats are floats at the ends of the subnormal and the normal ones, and of the powers of 2.
func edgeFloats() []float32 {
	list := []float32{0, math.SmallestNonzeroFloat32, math.MaxFloat32, 1, 0.75, 2.5, 16777216, 16777215, 1.0 / 3}
	for _, bits := range []uint32{2, 3, 0x007fffff, 0x00800000, 0x00800001, 0x00ffffff, 0x01000000, 0x3f7fffff, 0x3f800001, 0x7f7ffffe} {
		list = append(list, math.Float32frombits(bits))
	}
	for _, f := range list {
		list = append(list, -f)
	}
	return list
}

// exactly returns the exact value of a float.
func exactly(f float32) *big.Rat { return new(big.Rat).SetFloat64(float64(f)) }

// nearest returns the nearest float to a number, or ErrLarge.
func nearest(x *big.Rat) result[float32] {
	f, _ := x.Float32()
	if math.IsInf(float64(f), 0) {
		return fails[float32](api.ErrLarge)
	}
	return is(f + 0) // -0 + 0 is 0
}

func checkFloat(t *testing.T, x *big.Rat) {
	t.Helper()
	got := both(number.Float(rat(x)))
	want(t, "Float of "+x.RatString(), got, nearest(x))
	if got.Value == 0 && math.Signbit(float64(got.Value)) {
		t.Errorf("Float of %s is -0", x.RatString())
	}
}

func TestExact(t *testing.T) {
	random := rand.New(rand.NewSource(41))
	list := edgeFloats()
	for len(list) < 3000 {
		if f := math.Float32frombits(random.Uint32()); f-f == 0 {
			list = append(list, f)
		}
	}
	for _, f := range list {
		want(t, "Exact", both(number.Exact(f)), is(rat(exactly(f))))
	}
	want(t, "Exact of -0", both(number.Exact(float32(math.Copysign(0, -1)))), is[api.Rat]("0"))
	want(t, "Exact of 1/3", both(number.Exact(1.0/3)), is[api.Rat]("11184811/33554432"))
	want(t, "Exact of the least float", both(number.Exact(math.SmallestNonzeroFloat32)), is(rat(new(big.Rat).SetFrac(big.NewInt(1), new(big.Int).Lsh(big.NewInt(1), 149)))))
	for _, f := range notFloats() {
		want(t, "Exact of no float", both(number.Exact(f)), fails[api.Rat](api.ErrForm))
	}
}

// TestFloatBetweenFloats has the floats, the middles between neighbours, and numbers just beside both.
func TestFloatBetweenFloats(t *testing.T) {
	random := rand.New(rand.NewSource(42))
	list := edgeFloats()
	for len(list) < 500 {
		if f := math.Float32frombits(random.Uint32()); f-f == 0 {
			list = append(list, f)
		}
	}
	tiny := new(big.Rat).SetFrac(big.NewInt(1), new(big.Int).Lsh(big.NewInt(1), 160))
	for _, f := range list {
		x := exactly(f)
		above, below := math.Nextafter32(f, math.MaxFloat32), math.Nextafter32(f, -math.MaxFloat32)
		for _, y := range []*big.Rat{x, exactly(above), exactly(below)} {
			middle := new(big.Rat).Add(x, y)
			middle.Mul(middle, big.NewRat(1, 2))
			checkFloat(t, middle)
			checkFloat(t, new(big.Rat).Add(middle, tiny))
			checkFloat(t, new(big.Rat).Sub(middle, tiny))
		}
	}
}

func TestFloatOfNumbers(t *testing.T) {
	random := rand.New(rand.NewSource(43))
	for range 3000 {
		if x := some(random); limited(x).Error == api.OK {
			checkFloat(t, x)
		}
	}
}

func TestFloatOfExamples(t *testing.T) {
	power := func(n int) *big.Rat { return new(big.Rat).SetInt(new(big.Int).Lsh(big.NewInt(1), uint(n))) }
	end, half := power(128), power(103)
	middle := new(big.Rat).Sub(end, half) // between the greatest float and 2^128
	one := big.NewRat(1, 1)
	large := fails[float32](api.ErrLarge)
	for _, row := range []struct {
		a api.Rat
		r result[float32]
	}{
		{"0", is[float32](0)},
		{"16777217", is[float32](16777216)},
		{"16777219", is[float32](16777220)},
		{"-16777217", is[float32](-16777216)},
		{"33554433/2", is[float32](16777216)},
		{"33554435/2", is[float32](16777218)},
		{"1/10", is[float32](0.1)},
		{rat(exactly(math.MaxFloat32)), is[float32](math.MaxFloat32)},
		{rat(new(big.Rat).Sub(middle, one)), is[float32](math.MaxFloat32)},
		{rat(new(big.Rat).Sub(one, middle)), is[float32](-math.MaxFloat32)},
		{rat(middle), large},
		{rat(new(big.Rat).Neg(middle)), large},
		{rat(end), large},
		{nines600, large},
		{"-" + nines600, large},
		{rat(new(big.Rat).Inv(power(149))), is[float32](math.SmallestNonzeroFloat32)},
		{rat(new(big.Rat).Inv(power(150))), is[float32](0)},
		{rat(new(big.Rat).Quo(big.NewRat(-1, 1), power(150))), is[float32](0)},
		{rat(new(big.Rat).Quo(big.NewRat(3, 1), power(150))), is[float32](2 * math.SmallestNonzeroFloat32)},
		{rat(new(big.Rat).Add(new(big.Rat).Inv(power(150)), new(big.Rat).Inv(power(1000)))), is[float32](math.SmallestNonzeroFloat32)},
		{"1/" + nines600, is[float32](0)},
		{"-1/" + nines600, is[float32](0)},
		{"x", fails[float32](api.ErrForm)},
		{"2/4", fails[float32](api.ErrForm)},
		{digits601, large},
	} {
		got := both(number.Float(row.a))
		want(t, "Float of "+string(row.a), got, row.r)
		if got.Value == 0 && math.Signbit(float64(got.Value)) {
			t.Errorf("Float of %s is -0", row.a)
		}
	}
}

func TestCheckSamples(t *testing.T) {
	want(t, "CheckSamples of none", number.CheckSamples(nil), api.OK)
	want(t, "CheckSamples", number.CheckSamples(edgeFloats()), api.OK)
	want(t, "CheckSamples of 1024", number.CheckSamples(make([]float32, 1024)), api.OK)
	want(t, "CheckSamples of 1025", number.CheckSamples(make([]float32, 1025)), api.ErrMany)
	for _, f := range notFloats() {
		want(t, "CheckSamples of a value that is no float", number.CheckSamples([]float32{f}), api.ErrForm)
		list := make([]float32, 1024)
		list[1023] = f
		want(t, "CheckSamples with such a last value", number.CheckSamples(list), api.ErrForm)
		want(t, "CheckSamples of too many such values", number.CheckSamples(append(list, f)), api.ErrMany)
	}
}
