package pupil_test

import (
	"math/big"
	"math/rand"
	"testing"

	"lenslet/api"
	"lenslet/pupil"
)

// P2.6

// modes returns all Zernike polynomials with their n and m.
func modes(t *testing.T) map[[2]int]pupil.Poly {
	t.Helper()
	all := map[[2]int]pupil.Poly{}
	for n := range pupil.MaxZernike + 1 {
		for m := -n; m <= n; m += 2 {
			f, e := pupil.Zernike(n, m)
			want(t, "Zernike", e, api.OK)
			all[[2]int{n, m}] = f
		}
	}
	return all
}

func TestZernikesAreOrthogonal(t *testing.T) {
	all := modes(t)
	want(t, "number of modes", len(all), 45)
	for a, f := range all {
		for b, g := range all {
			wanted := new(big.Rat)
			if a == b {
				wanted = big.NewRat(1, int64(a[0]+1))
				if a[1] != 0 {
					wanted.Quo(wanted, integer(2))
				}
			}
			want(t, "DiscProduct", both(pupil.DiscProduct(f, g)), is(rat(wanted)))
		}
	}
}

func TestValuesOfSumsAndProducts(t *testing.T) {
	random := rand.New(rand.NewSource(51))
	for range 300 {
		f, g := somePoly(random, 8), somePoly(random, 8)
		p := api.Place{X: rat(small(random)), Y: rat(small(random))}
		x, _ := pupil.Value(f, p)
		y, _ := pupil.Value(g, p)
		sum, e := pupil.AddPoly(f, g)
		want(t, "AddPoly", e, api.OK)
		want(t, "value of a sum", both(pupil.Value(sum, p)), is(rat(plus(value(x), value(y)))))
		multiple, e := pupil.MulPoly(f, g)
		want(t, "MulPoly", e, api.OK)
		want(t, "value of a product", both(pupil.Value(multiple, p)), is(rat(times(value(x), value(y)))))
		want(t, "terms of a sum", pupil.CheckPoly(sum), api.OK)
		want(t, "terms of a product", pupil.CheckPoly(multiple), api.OK)
	}
}

func TestBasesAreOrthogonal(t *testing.T) {
	random := rand.New(rand.NewSource(52))
	tried := 0
	for range 100 {
		p := somePupil(random)
		basis, e := pupil.Basis(p, zernikes(1+random.Intn(8)))
		if e != api.OK {
			continue
		}
		tried++
		for k, v := range basis {
			for _, before := range basis[:k] {
				want(t, "inner product", product(values(v), values(before)).Sign(), 0)
			}
		}
		phase := smalls(random, len(basis[0]))
		coefficients, residual, e := pupil.Expand(basis, rats(phase))
		want(t, "Expand", e, api.OK)
		rest := values(residual)
		for _, v := range basis {
			want(t, "inner product with the residual", product(rest, values(v)).Sign(), 0)
		}
		for range 5 {
			checkLeast(t, random, basis, phase, values(coefficients), product(rest, rest))
		}
		chosen := smalls(random, len(basis))
		composed, e := pupil.Compose(basis, rats(chosen))
		want(t, "Compose", e, api.OK)
		want(t, "Expand what was composed", all(pupil.Expand(basis, composed)), two[[]api.Rat, []api.Rat]{rats(chosen), repeated("0", len(composed)), api.OK})
	}
	want(t, "many bases", tried > 50, true)
}

// checkLeast reports other coefficients that leave a residual with a lesser sum of squares.
func checkLeast(t *testing.T, random *rand.Rand, basis [][]api.Rat, phase, coefficients []*big.Rat, least *big.Rat) {
	t.Helper()
	rest := phase
	for k, v := range basis {
		c := coefficients[k]
		if random.Intn(2) == 0 {
			c = plus(c, big.NewRat(int64(random.Intn(5)-2), int64(1+random.Intn(1000))))
		}
		rest = without(rest, c, values(v))
	}
	want(t, "other coefficients", product(rest, rest).Cmp(least) >= 0, true)
}

func TestSlopesOfTilts(t *testing.T) {
	random := rand.New(rand.NewSource(53))
	for range 200 {
		p := somePupil(random)
		x, y := small(random), small(random)
		tilt := poly(map[[2]int]*big.Rat{{0, 0}: small(random), {1, 0}: x, {0, 1}: y})
		side := 1 + random.Intn(p.Size)
		corner := [2]int{random.Intn(p.Size - side + 1), random.Intn(p.Size - side + 1)}
		s, e := pupil.Slopes(p, tilt, corner, side)
		if e != api.ErrNone {
			want(t, "slopes of a tilt", both(s, e), is([2]api.Rat{rat(x), rat(y)}))
		}
	}
}

func TestPupilsAfterAQuarterTurn(t *testing.T) {
	random := rand.New(rand.NewSource(54))
	for range 200 {
		p := somePupil(random)
		p.Vanes = nil
		mask, e := pupil.Mask(p)
		want(t, "Mask", e, api.OK)
		for row := range p.Size {
			for column := range p.Size {
				want(t, "a cell after a quarter turn", mask[column][p.Size-1-row], mask[row][column])
			}
		}
	}
}

func TestTurnedFourTimes(t *testing.T) {
	random := rand.New(rand.NewSource(55))
	for range 100 {
		f := someTerms(random)
		g := f
		for range 4 {
			g, _ = pupil.Turned(g)
		}
		want(t, "Turned four times", g, f)
	}
}
