package pupil_test

import (
	"math/big"
	"math/rand"
	"testing"

	"lenslet/api"
	"lenslet/pupil"
)

// P2.2

// limitedPoly is the result for a polynomial, or ErrLarge if a number has too many digits.
func limitedPoly(all map[[2]int]*big.Rat) result[pupil.Poly] {
	f := poly(all)
	for _, t := range f {
		if e := limited([]*big.Rat{value(t.C)}).Error; e != api.OK {
			return fails[pupil.Poly](e)
		}
	}
	return is(f)
}

// someTerms returns a polynomial: mostly a small one, sometimes one with large numbers or all terms.
func someTerms(random *rand.Rand) pupil.Poly {
	f := somePoly(random, []int{0, 1, 2, 3, 8, 16}[random.Intn(6)])
	if random.Intn(20) == 0 {
		return greatest(random)
	}
	for k := range f {
		if random.Intn(10) == 0 {
			f[k].C = []api.Rat{nines600, "-" + nines600, "1/" + nines600, "-2/" + nines600}[random.Intn(4)]
		}
	}
	return f
}

func TestValue(t *testing.T) {
	random := rand.New(rand.NewSource(11))
	for range 300 {
		f := someTerms(random)
		x, y := small(random), small(random)
		wanted := limited([]*big.Rat{at(f, x, y)})
		got := both(pupil.Value(f, api.Place{X: rat(x), Y: rat(y)}))
		want(t, "Value", got.Error, wanted.Error)
		if got.Error == api.OK {
			want(t, "Value", []api.Rat{got.Value}, wanted.Value)
		}
	}
	for _, row := range []struct {
		f pupil.Poly
		p api.Place
		r result[api.Rat]
	}{
		{nil, api.Place{X: "1/2", Y: "3"}, is(api.Rat("0"))},
		{pupil.Poly{}, api.Place{X: nines600, Y: nines600}, is(api.Rat("0"))},
		{pupil.Poly{{"-1", 0, 0}, {"2", 2, 0}, {"2", 0, 2}}, api.Place{X: "1/4", Y: "3/4"}, is(api.Rat("1/4"))},
		{pupil.Poly{{"7", 0, 0}}, api.Place{X: "0", Y: "0"}, is(api.Rat("7"))},
		{pupil.Poly{{"3", 16, 0}}, api.Place{X: "-2", Y: "5"}, is(api.Rat("196608"))},
		{pupil.Poly{{"3", 0, 16}}, api.Place{X: "5", Y: "-1/2"}, is(api.Rat("3/65536"))},
		{pupil.Poly{{"3", 8, 8}}, api.Place{X: "2", Y: "-1/2"}, is(api.Rat("3"))},
		{pupil.Poly{{"1", 16, 0}}, api.Place{X: nines600, Y: "0"}, fails[api.Rat](api.ErrLarge)},
		{pupil.Poly{{"1", 1, 1}}, api.Place{X: nines600, Y: "-2"}, fails[api.Rat](api.ErrLarge)},
		{pupil.Poly{{"1", 16, 0}, {"-1", 0, 16}}, api.Place{X: nines600, Y: "-" + nines600}, is(api.Rat("0"))},
		{pupil.Poly{{"1", 8, 8}}, api.Place{X: nines600, Y: "1/" + nines600}, is(api.Rat("1"))},
		{pupil.Poly{{"0", 0, 0}}, api.Place{X: "x", Y: "x"}, fails[api.Rat](api.ErrZero)},
		{pupil.Poly{{"1", 0, 0}}, api.Place{X: digits601, Y: "x"}, fails[api.Rat](api.ErrLarge)},
		{pupil.Poly{{"1", 0, 0}}, api.Place{X: "x", Y: digits601}, fails[api.Rat](api.ErrForm)},
		{nil, api.Place{X: "1", Y: digits601}, fails[api.Rat](api.ErrLarge)},
		{nil, api.Place{X: "1", Y: ""}, fails[api.Rat](api.ErrForm)},
	} {
		want(t, "Value", both(pupil.Value(row.f, row.p)), row.r)
	}
}

func TestAddPoly(t *testing.T) {
	random := rand.New(rand.NewSource(12))
	for range 500 {
		f, g := someTerms(random), someTerms(random)
		sum := coefficients(f)
		for at, c := range coefficients(g) {
			if old, found := sum[at]; found {
				c = plus(c, old)
			}
			sum[at] = c
		}
		want(t, "AddPoly", both(pupil.AddPoly(f, g)), limitedPoly(sum))
	}
	x := pupil.Poly{{"1", 1, 0}}
	want(t, "a sum of 0", both(pupil.AddPoly(x, pupil.Poly{{"-1", 1, 0}})), is(pupil.Poly(nil)))
	want(t, "a sum with 0", both(pupil.AddPoly(nil, x)), is(x))
	want(t, "a sum at the limit", both(pupil.AddPoly(pupil.Poly{{nines600, 1, 0}}, x)), fails[pupil.Poly](api.ErrLarge))
	want(t, "a sum in order", both(pupil.AddPoly(pupil.Poly{{"1", 0, 1}, {"1", 0, 2}}, pupil.Poly{{"2", 0, 0}, {"1", 1, 0}, {"1", 1, 1}})), is(pupil.Poly{{"2", 0, 0}, {"1", 1, 0}, {"1", 0, 1}, {"1", 1, 1}, {"1", 0, 2}}))
}

func TestMulPoly(t *testing.T) {
	random := rand.New(rand.NewSource(13))
	for range 500 {
		f, g := someTerms(random), someTerms(random)
		products := map[[2]int]*big.Rat{}
		for a, c := range coefficients(f) {
			for b, d := range coefficients(g) {
				at := [2]int{a[0] + b[0], a[1] + b[1]}
				if products[at] == nil {
					products[at] = new(big.Rat)
				}
				products[at].Add(products[at], times(c, d))
			}
		}
		wanted := limitedPoly(products)
		if len(f) > 0 && len(g) > 0 && f[len(f)-1].I+f[len(f)-1].J+g[len(g)-1].I+g[len(g)-1].J > pupil.MaxDegree {
			wanted = fails[pupil.Poly](api.ErrRange)
		}
		want(t, "MulPoly", both(pupil.MulPoly(f, g)), wanted)
	}
	sum, difference := pupil.Poly{{"1", 8, 0}, {"1", 0, 8}}, pupil.Poly{{"1", 8, 0}, {"-1", 0, 8}}
	want(t, "a product of degree 16", both(pupil.MulPoly(sum, difference)), is(pupil.Poly{{"1", 16, 0}, {"-1", 0, 16}}))
	want(t, "a product of degree 17", both(pupil.MulPoly(pupil.Poly{{"1", 9, 0}}, sum)), fails[pupil.Poly](api.ErrRange))
	want(t, "a product of degree 17 with large numbers", both(pupil.MulPoly(pupil.Poly{{nines600, 9, 0}}, pupil.Poly{{nines600, 0, 8}})), fails[pupil.Poly](api.ErrRange))
	want(t, "a product with large numbers", both(pupil.MulPoly(pupil.Poly{{nines600, 8, 0}}, pupil.Poly{{nines600, 0, 8}})), fails[pupil.Poly](api.ErrLarge))
	want(t, "a product with 0", both(pupil.MulPoly(nil, greatest(random))), is(pupil.Poly(nil)))
	want(t, "a product with 0", both(pupil.MulPoly(greatest(random), pupil.Poly{})), is(pupil.Poly(nil)))
	want(t, "a product with 1", both(pupil.MulPoly(pupil.Poly{{"1", 0, 0}}, pupil.Poly{{"5", 16, 0}})), is(pupil.Poly{{"5", 16, 0}}))
}

func TestDerive(t *testing.T) {
	random := rand.New(rand.NewSource(14))
	for range 500 {
		f := someTerms(random)
		byX, byY := map[[2]int]*big.Rat{}, map[[2]int]*big.Rat{}
		for _, t := range f {
			byX[[2]int{t.I - 1, t.J}] = times(value(t.C), integer(t.I))
			byY[[2]int{t.I, t.J - 1}] = times(value(t.C), integer(t.J))
		}
		want(t, "Derive by X", both(pupil.Derive(f, "x")), limitedPoly(byX))
		want(t, "Derive by Y", both(pupil.Derive(f, "y")), limitedPoly(byY))
	}
	want(t, "Derive 2 X Y", both(pupil.Derive(pupil.Poly{{"2", 1, 1}}, "x")), is(pupil.Poly{{"2", 0, 1}}))
	want(t, "Derive 2 X Y", both(pupil.Derive(pupil.Poly{{"2", 1, 1}}, "y")), is(pupil.Poly{{"2", 1, 0}}))
	want(t, "Derive 7", both(pupil.Derive(pupil.Poly{{"7", 0, 0}}, "x")), is(pupil.Poly(nil)))
	want(t, "Derive 0", both(pupil.Derive(nil, "y")), is(pupil.Poly(nil)))
	want(t, "Derive at the limit", both(pupil.Derive(pupil.Poly{{nines600, 0, 2}}, "y")), fails[pupil.Poly](api.ErrLarge))
	want(t, "Derive within the limit", both(pupil.Derive(pupil.Poly{{"1/1" + nines600[:599], 1, 0}}, "x")), is(pupil.Poly{{"1/1" + nines600[:599], 0, 0}}))
	for _, axis := range []string{"", "X", "Y", "z", "xy", "x ", "\xff"} {
		want(t, "Derive by "+axis, both(pupil.Derive(pupil.Poly{{nines600, 0, 2}}, axis)), fails[pupil.Poly](api.ErrKind))
		want(t, "Derive a wrong polynomial by "+axis, both(pupil.Derive(pupil.Poly{{"0", 0, 2}}, axis)), fails[pupil.Poly](api.ErrZero))
	}
}

func TestTurned(t *testing.T) {
	random := rand.New(rand.NewSource(15))
	for range 300 {
		f := someTerms(random)
		g, e := pupil.Turned(f)
		want(t, "Turned", e, api.OK)
		want(t, "terms of a turned polynomial", pupil.CheckPoly(g), api.OK)
		x, y := small(random), small(random)
		want(t, "value of a turned polynomial", at(g, x, y).Cmp(at(f, y, new(big.Rat).Neg(x))), 0)
	}
	for _, row := range [][2]pupil.Poly{
		{nil, nil},
		{{{"1", 1, 0}}, {{"1", 0, 1}}},
		{{{"1", 0, 1}}, {{"-1", 1, 0}}},
		{{{"5", 0, 0}, {"2", 1, 0}, {"3", 0, 1}}, {{"5", 0, 0}, {"-3", 1, 0}, {"2", 0, 1}}},
		{{{"1", 3, 0}, {"2", 2, 1}, {"3", 1, 2}, {"4", 0, 3}}, {{"-4", 3, 0}, {"3", 2, 1}, {"-2", 1, 2}, {"1", 0, 3}}},
		{{{nines600, 0, 15}, {"-1/" + nines600, 0, 16}}, {{"-" + nines600, 15, 0}, {"-1/" + nines600, 16, 0}}},
	} {
		want(t, "Turned", both(pupil.Turned(row[0])), is(row[1]))
	}
}

func TestPolysAtLimits(t *testing.T) {
	random := rand.New(rand.NewSource(16))
	f := greatest(random)
	want(t, "number of terms", len(f), 153)
	want(t, "CheckPoly", pupil.CheckPoly(f), api.OK)
	want(t, "CheckPoly of 0", pupil.CheckPoly(nil), api.OK)
	want(t, "CheckPoly of 0", pupil.CheckPoly(pupil.Poly{}), api.OK)
	want(t, "CheckPoly", pupil.CheckPoly(pupil.Poly{{nines600, 16, 0}, {"-1/" + nines600, 0, 16}}), api.OK)
	want(t, "CheckPoly of too many terms", pupil.CheckPoly(append(f, f...)), api.ErrOrder)
	want(t, "the order of terms", pupil.CheckPoly(pupil.Poly{{"1", 0, 0}, {"1", 1, 0}, {"1", 0, 1}, {"1", 2, 0}, {"1", 1, 1}, {"1", 0, 2}, {"1", 3, 0}}), api.OK)
}

func TestWrongPolys(t *testing.T) {
	good := pupil.Poly{{"1", 1, 0}}
	for _, row := range wrongPolys() {
		want(t, "CheckPoly", pupil.CheckPoly(row.f), row.e)
		failed := fails[pupil.Poly](row.e)
		want(t, "Value", both(pupil.Value(row.f, api.Place{X: "1/1", Y: digits601})), fails[api.Rat](row.e))
		want(t, "AddPoly", both(pupil.AddPoly(row.f, pupil.Poly{{digits601, 0, 0}})), failed)
		want(t, "AddPoly", both(pupil.AddPoly(good, row.f)), failed)
		want(t, "MulPoly", both(pupil.MulPoly(row.f, pupil.Poly{{"0", 0, 0}})), failed)
		want(t, "MulPoly", both(pupil.MulPoly(good, row.f)), failed)
		want(t, "MulPoly", both(pupil.MulPoly(nil, row.f)), failed)
		want(t, "Derive", both(pupil.Derive(row.f, "x")), failed)
		want(t, "Derive", both(pupil.Derive(row.f, "")), failed)
		want(t, "Turned", both(pupil.Turned(row.f)), failed)
	}
	for _, a := range wrong() {
		want(t, "a wrong coefficient", pupil.CheckPoly(pupil.Poly{{a, 0, 0}}), api.ErrForm)
		want(t, "a wrong place", both(pupil.Value(good, api.Place{X: a, Y: "0"})), fails[api.Rat](api.ErrForm))
		want(t, "a wrong place", both(pupil.Value(good, api.Place{X: "0", Y: a})), fails[api.Rat](api.ErrForm))
	}
}
