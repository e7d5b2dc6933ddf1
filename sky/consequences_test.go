package sky_test

import (
	"math/big"
	"math/rand"
	"slices"
	"testing"

	"lenslet/api"
	"lenslet/sky"
)

// P7.7

// good returns a result that has no error.
func good[T any](t *testing.T, r result[T]) T {
	t.Helper()
	want(t, "the error", r.Error, api.OK)
	return r.Value
}

func TestDrawnValuesHaveWeights(t *testing.T) {
	random := rand.New(rand.NewSource(51))
	for range 200 {
		weights := someWeights(random)
		s := good(t, both(sky.Drawn(1+random.Intn(2147483646), 16, weights)))
		want(t, "CheckScreen of a drawn screen", sky.CheckScreen(s), api.OK)
		for _, v := range slices.Concat(s...) {
			if k := v + len(weights)/2; k < 0 || k >= len(weights) || weights[k] == 0 {
				t.Fatalf("the value %d is drawn with the weights %v", v, weights)
			}
		}
	}
}

func TestBlownLayers(t *testing.T) {
	random := rand.New(rand.NewSource(52))
	for range 300 {
		l, s, p := someLayer(random, 16), someStar(random), somePlace(random)
		s.Height = "0"
		frame, more := random.Intn(2000)-1000, random.Intn(2000)-1000
		blown := good(t, both(sky.Blown(l, frame)))
		want(t, "the phase of a blown layer", both(sky.LayerPhase(blown, s, p, 0)), both(sky.LayerPhase(l, s, p, frame)))
		want(t, "the phase of a blown layer later on", both(sky.LayerPhase(blown, s, p, more)), both(sky.LayerPhase(l, s, p, frame+more)))
		// A whole number of cells of wind shifts the screen.
		columns, rows := random.Intn(41)-20, random.Intn(41)-20
		l.Wind = at(rat(integer(columns)), rat(integer(rows)))
		shifted := l
		shifted.Screen = good(t, both(sky.Shift(l.Screen, -columns, -rows)))
		want(t, "the phase of a shifted screen", both(sky.LayerPhase(shifted, s, p, 0)), both(sky.LayerPhase(l, s, p, 1)))
	}
}

func TestStructureFunctions(t *testing.T) {
	random := rand.New(rand.NewSource(53))
	for range 200 {
		s := someScreen(random, 16)
		columns, rows, side := random.Intn(100)-50, random.Intn(100)-50, len(s)
		want(t, "the structure function the other way", both(sky.Structure(s, -columns, -rows)), both(sky.Structure(s, columns, rows)))
		want(t, "the structure function of whole sides", both(sky.Structure(s, columns*side, rows*side)), is[api.Rat]("0"))
		want(t, "the mean of a shifted screen", both(sky.Mean(good(t, both(sky.Shift(s, columns, rows))))), both(sky.Mean(s)))
	}
}

func TestValuesLieBetweenCells(t *testing.T) {
	random := rand.New(rand.NewSource(54))
	for range 500 {
		s, p := someScreen(random, 16), somePlace(random)
		i, _ := floored(value(p.X))
		j, _ := floored(value(p.Y))
		column, row := modulo(i, len(s)), modulo(j, len(s))
		corners := []int{cellOf(s, column, row), cellOf(s, column+1, row), cellOf(s, column, row+1), cellOf(s, column+1, row+1)}
		v := good(t, both(sky.Value(s, p)))
		if x := value(v); x.Cmp(integer(slices.Min(corners))) < 0 || x.Cmp(integer(slices.Max(corners))) > 0 {
			t.Errorf("the value %s at %v is not between the cells %v", v, p, corners)
		}
		side := point{integer(len(s) * (random.Intn(9) - 4)), integer(len(s) * (random.Intn(9) - 4))}
		want(t, "the value whole sides away", both(sky.Value(s, pointOf(p).plus(side).place())), is(v))
	}
}

func TestRaysMeetInTheirStar(t *testing.T) {
	random := rand.New(rand.NewSource(55))
	for range 300 {
		s := someStar(random)
		p, q := somePlace(random), somePlace(random)
		if s.Height == "0" {
			s.Height = "3/2"
		}
		end := pointOf(s.Direction).times(value(s.Height))
		for _, part := range []*big.Rat{integer(0), big.NewRat(1, 3), big.NewRat(999, 1000)} {
			height := rat(times(value(s.Height), part))
			one, other := pointOf(good(t, both(sky.Footprint(s, height, p)))), pointOf(good(t, both(sky.Footprint(s, height, q))))
			// What is left of the way is the same part of the ray from each place to the star.
			left := minus(integer(1), part)
			want(t, "the ray from a place", one.place(), end.times(part).plus(pointOf(p).times(left)).place())
			want(t, "the ray from another place", other.place(), end.times(part).plus(pointOf(q).times(left)).place())
		}
	}
}

func TestMatrixTimesCells(t *testing.T) {
	random := rand.New(rand.NewSource(56))
	for range 100 {
		layers, places, frame := someLayers(random, 1+random.Intn(4), 4), somePlaces(random, 1+random.Intn(10)), random.Intn(50)-25
		stars := make([]sky.Star, 1+random.Intn(6))
		for k := range stars {
			stars[k] = someStar(random)
		}
		var cells []int
		for _, l := range layers {
			cells = append(cells, slices.Concat(l.Screen...)...)
		}
		var sums, phases []api.Rat
		for _, row := range good(t, both(sky.Matrix(layers, stars, places, frame))) {
			sum := new(big.Rat)
			for j, a := range row {
				sum = plus(sum, times(value(a), integer(cells[j])))
			}
			sums = append(sums, rat(sum))
		}
		for _, s := range stars {
			phases = append(phases, good(t, both(sky.Phases(layers, s, places, frame)))...)
		}
		want(t, "the matrix times the cells", sums, phases)
	}
}

// TestTomographyOfLayers looks for the gradient at the cells that explain the phases of layers.
func TestTomographyOfLayers(t *testing.T) {
	random := rand.New(rand.NewSource(57))
	for range 20 {
		layers, places := someLayers(random, 2, 3), somePlaces(random, 4)
		stars := []sky.Star{someStar(random), up(), someStar(random)}
		m := good(t, both(sky.Matrix(layers, stars, places, 1)))
		var phases []api.Rat
		for _, s := range stars {
			phases = append(phases, good(t, both(sky.Phases(layers, s, places, 1)))...)
		}
		x := good(t, both(sky.Tomography(m, phases, "1/10")))
		want(t, "the gradient", gradient(m, phases, "1/10", x), slices.Repeat(list("0"), len(m[0])))
	}
}
