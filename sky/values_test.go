package sky_test

import (
	"math"
	"math/big"
	"math/rand"
	"testing"

	"lenslet/api"
	"lenslet/number"
	"lenslet/sky"
)

// P7.3

// coordinates are coordinates in cells: below 0, at whole numbers, between them, and beyond the side.
func coordinates() []api.Rat {
	return append(list("0 1 -1 2 15 16 17 -16 1/2 -1/2 3/2 1/3 -1/3 -2/3 31/2 -33/2 63/4 1000000007/3 -1000000007/7"), power10(599), "-"+nines600)
}

func TestExamplesOfValues(t *testing.T) {
	want(t, "Value", both(sky.Value(exampleScreen(), at("1/2", "1/2"))), is[api.Rat]("3/2"))
	want(t, "Value between the cells 1 and 0", both(sky.Value(exampleScreen(), at("3/2", "0"))), is[api.Rat]("1/2"))
}

func TestValue(t *testing.T) {
	random := rand.New(rand.NewSource(11))
	for side := 1; side <= 16; side++ {
		s := filled(side, 0)
		for _, row := range s {
			for i := range row {
				row[i] = random.Intn(2001) - 1000
			}
		}
		for _, x := range coordinates() {
			for _, y := range coordinates() {
				p := at(x, y)
				want(t, "Value", both(sky.Value(s, p)), is(rat(interpolated(s, pointOf(p)))))
			}
		}
	}
	for _, row := range []struct {
		x, y, value api.Rat
	}{
		{"0", "0", "0"}, {"1", "0", "1"}, {"0", "1", "2"}, {"1", "1", "3"}, // at the cells
		{"2", "0", "0"}, {"0", "2", "0"}, {"-1", "-1", "3"}, {"-2", "5", "2"}, // beyond the side
		{"1/4", "0", "1/4"}, {"0", "1/4", "1/2"}, {"1/4", "1/4", "3/4"},
		{"-1/4", "0", "1/4"}, {"0", "-1/4", "1/2"}, {"7/4", "7/4", "3/4"}, // between the last cells and the first ones
	} {
		want(t, "Value", both(sky.Value(exampleScreen(), at(row.x, row.y))), is(row.value))
	}
	want(t, "Value of one cell", both(sky.Value(filled(1, -9), at("1/"+nines600, "-1/"+nines600))), is[api.Rat]("-9"))
}

func TestValuesOfManyDigits(t *testing.T) {
	fine := "1/" + nines600
	saddle := [][]int{{1, 0}, {0, 1}}
	want(t, "Value with 600 digits", both(sky.Value([][]int{{0, 1}, {0, 1}}, at(fine, fine))), is(fine))
	want(t, "Value with 1200 digits", both(sky.Value(saddle, at(fine, fine))), fails[api.Rat](api.ErrLarge))
	want(t, "Value with 600 digits", both(sky.Value(saddle, at(fine, "0"))), is(api.Rat(string(nines600[1:])+"8/"+string(nines600))))
	want(t, "Value with 601 digits", both(sky.Value(saddle, at("1/"+power10(599), "1/13"))), fails[api.Rat](api.ErrLarge))
	// The weights have 1200 digits, but the value does not.
	want(t, "Value of equal cells", both(sky.Value(filled(2, 5), at(fine, fine))), is[api.Rat]("5"))
	want(t, "Value with 600 digits", both(sky.Value([][]int{{0, 0}, {600, 600}}, at(fine, "1/"+power10(599)))), is[api.Rat]("3/5"+power10(596)[1:]))
}

// nearest returns the nearest float to a number, or ErrLarge.
func nearest(x *big.Rat) result[float32] {
	f, _ := x.Float32()
	if math.IsInf(float64(f), 0) {
		return fails[float32](api.ErrLarge)
	}
	return is(f + 0) // -0 + 0 is 0
}

func TestFloats(t *testing.T) {
	random := rand.New(rand.NewSource(12))
	strengths := list("0 1 -1 1/2 1/3 -1/7 16777217 33554433/2 1/1000")
	for exponent := -50; exponent <= 60; exponent += 5 {
		x := big.NewRat(1+random.Int63n(1<<40), 1+random.Int63n(1<<40))
		power := new(big.Rat).SetInt(new(big.Int).Exp(big.NewInt(10), big.NewInt(int64(max(exponent, -exponent))), nil))
		if exponent < 0 {
			power.Inv(power)
		}
		strengths = append(strengths, rat(times(x, power)), rat(times(x.Neg(x), power)))
	}
	large := 0
	for _, strength := range strengths {
		s := someScreen(random, 16)
		s[0][0] = 0
		wanted := is([][]float32(nil))
		for _, row := range s {
			var floats []float32
			for _, v := range row {
				f := nearest(times(value(strength), integer(v)))
				floats, wanted.Error = append(floats, f.Value), max(wanted.Error, f.Error)
			}
			wanted.Value = append(wanted.Value, floats)
		}
		if wanted.Error != api.OK {
			large++
			wanted = fails[[][]float32](api.ErrLarge)
		}
		got := both(sky.Floats(s, strength))
		want(t, "Floats with the strength "+string(strength), got, wanted)
		for _, row := range got.Value {
			for _, f := range row {
				if f == 0 && math.Signbit(float64(f)) {
					t.Errorf("a float with the strength %s is -0", strength)
				}
			}
		}
	}
	if large == 0 || large == len(strengths) {
		t.Errorf("%d of %d strengths are too large", large, len(strengths))
	}
	want(t, "Floats", both(sky.Floats([][]int{{-1000, 1000}, {1, -3}}, "1/4")), is([][]float32{{-250, 250}, {0.25, -0.75}}))
	want(t, "Floats of one cell", both(sky.Floats(filled(1, 3), "16777217/3")), is([][]float32{{16777216}}))
	want(t, "Floats below the least one", both(sky.Floats(filled(1, -1), "1/"+power10(50))), is([][]float32{{0}}))
}

func TestFloatsTooLarge(t *testing.T) {
	end := new(big.Int).Lsh(big.NewInt(1), 128)
	middle := new(big.Int).Sub(end, new(big.Int).Lsh(big.NewInt(1), 103)) // between the greatest float and 2^128
	below := api.Rat(new(big.Int).Sub(middle, big.NewInt(1)).String())
	for _, sign := range []int{1, -1} {
		s := [][]int{{0, 0}, {0, sign}}
		want(t, "Floats of 2^128", both(sky.Floats(s, api.Rat(end.String()))), fails[[][]float32](api.ErrLarge))
		want(t, "Floats that are rounded to 2^128", both(sky.Floats(s, api.Rat(middle.String()))), fails[[][]float32](api.ErrLarge))
		want(t, "Floats that are rounded to the greatest one", both(sky.Floats(s, below)), is([][]float32{{0, 0}, {0, float32(sign) * math.MaxFloat32}}))
	}
	want(t, "Floats of 0", both(sky.Floats(filled(2, 0), nines600)), is(made(2, 0)))
	want(t, "Floats of 600 digits", both(sky.Floats(filled(2, 1), nines600)), fails[[][]float32](api.ErrLarge))
	// The product has 601 digits: number.Float has no such number as its argument.
	wide := nines600[1:] + "7/" + power10(599)
	want(t, "Floats of a product with 600 digits", both(sky.Floats(filled(1, 1), wide)), is(made(1, 10)))
	want(t, "Floats of a product with 601 digits", both(sky.Floats([][]int{{1, 3}, {1, 1}}, wide)), fails[[][]float32](api.ErrLarge))
	_, e := number.Float("2999" + digits601)
	want(t, "the error of number.Float for so many digits", e, api.ErrLarge)
}

// made returns rows of the same float.
func made(side int, f float32) [][]float32 {
	rows := make([][]float32, side)
	for i := range rows {
		for range side {
			rows[i] = append(rows[i], f)
		}
	}
	return rows
}

func TestWrongValues(t *testing.T) {
	for _, w := range wrongScreens() {
		for _, p := range []api.Place{{}, origin(), at(digits601, "0")} {
			want(t, "Value", both(sky.Value(w.rows, p)), fails[api.Rat](w.e))
			want(t, "Floats", both(sky.Floats(w.rows, p.X)), fails[[][]float32](w.e))
		}
	}
	for _, w := range wrongPlaces() {
		want(t, "Value", both(sky.Value(exampleScreen(), w.at)), fails[api.Rat](w.e))
	}
	for _, w := range wrongRats() {
		want(t, "Floats", both(sky.Floats(filled(1, 0), w.a)), fails[[][]float32](w.e))
	}
}
