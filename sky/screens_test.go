package sky_test

import (
	"math/big"
	"math/rand"
	"slices"
	"testing"

	"lenslet/api"
	"lenslet/sky"
)

// P7.1 and P7.2

// drawn returns the drawn screen, by its definition.
func drawn(key, side int, weights []int) [][]int {
	x, factor, modulus := big.NewInt(int64(key)), big.NewInt(39373), big.NewInt(2147483647)
	sum := 0
	for _, weight := range weights {
		sum += weight
	}
	rows := make([][]int, side)
	for i := range side * side {
		x.Mod(x.Mul(x, factor), modulus)
		t := modulo(x, sum)
		for k := range weights {
			up := 0
			for _, weight := range weights[:k+1] {
				up += weight
			}
			if up > t {
				rows[i/side] = append(rows[i/side], k-(len(weights)-1)/2)
				break
			}
		}
	}
	return rows
}

// smoothed returns the sums of a smoothed screen, by their definition.
func smoothed(s, kernel [][]int) [][]int {
	h := (len(kernel) - 1) / 2
	rows := filled(len(s), 0)
	for r := range s {
		for c := range s {
			for k, factors := range kernel {
				for i, factor := range factors {
					rows[r][c] += factor * cellOf(s, c+i-h, r+k-h)
				}
			}
		}
	}
	return rows
}

// someWeights returns an odd number of weights, not all of which are 0.
func someWeights(random *rand.Rand) []int {
	weights := make([]int, 2*random.Intn(17)+1)
	for i := range weights {
		weights[i] = max(0, random.Intn(2*sky.MaxWeight)-sky.MaxWeight)
	}
	weights[random.Intn(len(weights))] = 1 + random.Intn(sky.MaxWeight)
	return weights
}

func TestExamplesOfScreens(t *testing.T) {
	s := exampleScreen()
	want(t, "Mean", both(sky.Mean(s)), is[api.Rat]("3/2"))
	want(t, "Variance", both(sky.Variance(s)), is[api.Rat]("5/4"))
	want(t, "Structure", both(sky.Structure(s, 1, 0)), is[api.Rat]("1"))
	want(t, "Shift", both(sky.Shift(s, 1, 0)), is([][]int{{1, 0}, {3, 2}}))
	want(t, "Drawn", both(sky.Drawn(1, 2, []int{1, 1, 1, 1, 1})), is([][]int{{1, 2}, {1, 2}}))
	want(t, "Smooth", both(sky.Smooth(s, [][]int{{0, 1, 0}, {0, 1, 0}, {0, 0, 0}})), is([][]int{{2, 4}, {2, 4}}))
}

func TestCheckScreen(t *testing.T) {
	for side := 1; side <= 16; side++ {
		for _, value := range []int{-1000, -1, 0, 1000} {
			want(t, "CheckScreen", sky.CheckScreen(filled(side, value)), api.OK)
		}
	}
	for _, w := range wrongScreens() {
		want(t, "CheckScreen", sky.CheckScreen(w.rows), w.e)
	}
}

func TestDrawn(t *testing.T) {
	random := rand.New(rand.NewSource(1))
	keys := []int{1, 2, 1000, 2147483645, 2147483646}
	for i := range 300 {
		key, side, weights := 1+random.Intn(2147483646), 1+i%16, someWeights(random)
		if i < 50 {
			key = keys[i%len(keys)]
		}
		want(t, "Drawn", both(sky.Drawn(key, side, weights)), is(drawn(key, side, weights)))
	}
	for i := range 33 {
		single := make([]int, 33)
		single[i] = 1 + i*30
		want(t, "Drawn with a single weight", both(sky.Drawn(7, 16, single)), is(filled(16, i-16)))
	}
	want(t, "Drawn with one weight", both(sky.Drawn(2147483646, 16, []int{1000})), is(filled(16, 0)))
	want(t, "Drawn with the greatest weights", both(sky.Drawn(5, 16, slices.Repeat([]int{1000}, 33))), is(drawn(5, 16, slices.Repeat([]int{1000}, 33))))
}

// wrongWeights are weights of a drawn screen with their error.
func wrongWeights() []struct {
	weights []int
	e       api.Errno
} {
	return []struct {
		weights []int
		e       api.Errno
	}{
		{nil, api.ErrEmpty},
		{make([]int, 34), api.ErrMany},
		{slices.Repeat([]int{-1}, 35), api.ErrMany},
		{make([]int, 5000), api.ErrMany},
		{[]int{1, 1}, api.ErrShape},
		{[]int{-1, 2000}, api.ErrShape},
		{make([]int, 32), api.ErrShape},
		{[]int{-1}, api.ErrRange},
		{[]int{0, 0, 1001}, api.ErrRange},
		{[]int{0, -1, 0}, api.ErrRange},
		{[]int{5, 1, -far - 1}, api.ErrRange},
		{[]int{1, far, 1}, api.ErrRange},
		{[]int{0}, api.ErrZero},
		{make([]int, 33), api.ErrZero},
	}
}

func TestWrongDraws(t *testing.T) {
	good := []int{1, 1, 1}
	for _, key := range []int{-far - 1, -1, 0, 2147483647, 1 << 40, far} {
		for _, side := range []int{-1, 3} {
			want(t, "Drawn with a wrong key", both(sky.Drawn(key, side, nil)), fails[[][]int](api.ErrRange))
			want(t, "Drawn with a wrong key", both(sky.Drawn(key, side, good)), fails[[][]int](api.ErrRange))
		}
	}
	for _, side := range []int{-far - 1, -1, 0, 17, far} {
		for _, w := range wrongWeights() {
			want(t, "Drawn with a wrong side", both(sky.Drawn(1, side, w.weights)), fails[[][]int](api.ErrRange))
		}
		want(t, "Drawn with a wrong side", both(sky.Drawn(1, side, good)), fails[[][]int](api.ErrRange))
	}
	for _, w := range wrongWeights() {
		want(t, "Drawn with wrong weights", both(sky.Drawn(1, 2, w.weights)), fails[[][]int](w.e))
	}
}

func TestSmooth(t *testing.T) {
	random := rand.New(rand.NewSource(2))
	large := 0
	for range 300 {
		s, kernel := someScreen(random, 16), filled([...]int{1, 3, 5}[random.Intn(3)], 0)
		for _, row := range s {
			for i := range row {
				row[i] /= 1 + random.Intn(100)
			}
		}
		for _, row := range kernel {
			for i := range row {
				row[i] = (random.Intn(2*sky.MaxFactor+1) - sky.MaxFactor) / (1 + random.Intn(200))
			}
		}
		rows := smoothed(s, kernel)
		wanted := is(rows)
		if values := slices.Concat(rows...); slices.Max(values) > 1000 || slices.Min(values) < -1000 {
			large++
			wanted = fails[[][]int](api.ErrLarge)
		}
		want(t, "Smooth", both(sky.Smooth(s, kernel)), wanted)
	}
	if large < 30 || large > 270 {
		t.Errorf("%d of 300 results are too large", large)
	}
}

func TestSmoothAtItsEnds(t *testing.T) {
	want(t, "Smooth with a kernel of one row", both(sky.Smooth([][]int{{10, -10}, {3, 0}}, [][]int{{-100}})), is([][]int{{-1000, 1000}, {-300, 0}}))
	for _, s := range [][][]int{{{0, 11}, {0, 0}}, {{0, 0}, {0, -11}}} {
		want(t, "Smooth with a large result", both(sky.Smooth(s, [][]int{{100}})), fails[[][]int](api.ErrLarge))
	}
	want(t, "Smooth of 1000", both(sky.Smooth(filled(1, 40), filled(5, 1))), is(filled(1, 1000)))
	want(t, "Smooth of 1001", both(sky.Smooth(filled(1, 143), [][]int{{1, 1, 1}, {1, 1, 1}, {1, 0, 0}})), fails[[][]int](api.ErrLarge))
	want(t, "Smooth of -1001", both(sky.Smooth(filled(2, -143), [][]int{{1, 1, 1}, {1, 1, 1}, {1, 0, 0}})), fails[[][]int](api.ErrLarge))
	want(t, "Smooth with sums that cancel", both(sky.Smooth(filled(16, 1000), [][]int{{100, -100, 100}, {-100, 1, -100}, {100, -100, 100}})), is(filled(16, 1000)))
	// A kernel is wider than the screen, which is periodic.
	want(t, "Smooth with a wide kernel", both(sky.Smooth(exampleScreen(), filled(5, 1))), is([][]int{{30, 35}, {40, 45}}))
}

func TestWrongKernels(t *testing.T) {
	wrong := []wrongSquare{
		{nil, api.ErrEmpty},
		{filled(6, 0), api.ErrMany},
		{filled(7, 0), api.ErrMany},
		{make([][]int, 7), api.ErrMany},
		{filled(2, 0), api.ErrShape},
		{[][]int{{far, 1}, {1}}, api.ErrShape},
		{filled(4, 1), api.ErrShape},
	}
	for _, w := range append(wrong, wrongRows(sky.MaxFactor)...) {
		want(t, "Smooth with a wrong kernel", both(sky.Smooth(filled(2, 1000), w.rows)), fails[[][]int](w.e))
	}
	for _, w := range wrongScreens() {
		for _, kernel := range [][][]int{nil, filled(7, 0), filled(2, 0), filled(1, 101), filled(1, 1)} {
			want(t, "Smooth of a wrong screen", both(sky.Smooth(w.rows, kernel)), fails[[][]int](w.e))
		}
	}
}

// steps are columns or rows, also those at the ends of their range, and some out of it.
func steps(side int) []int {
	return []int{0, 1, -1, 2, -2, side, -side, side - 1, side + 1, -3*side + 1, 16, 31, api.MaxNumber, -api.MaxNumber, api.MaxNumber - 1}
}

func TestShift(t *testing.T) {
	random := rand.New(rand.NewSource(3))
	for range 30 {
		s := someScreen(random, 16)
		for _, columns := range steps(len(s)) {
			for _, rows := range steps(len(s)) {
				wanted := filled(len(s), 0)
				for r := range s {
					for c := range s {
						wanted[r][c] = cellOf(s, c-columns, r-rows)
					}
				}
				want(t, "Shift", both(sky.Shift(s, columns, rows)), is(wanted))
			}
		}
	}
	want(t, "Shift by rows", both(sky.Shift(exampleScreen(), 0, -1)), is([][]int{{2, 3}, {0, 1}}))
	want(t, "Shift by nothing", both(sky.Shift(exampleScreen(), 0, 0)), is(exampleScreen()))
	want(t, "Shift by whole sides", both(sky.Shift(exampleScreen(), -4, 2)), is(exampleScreen()))
	want(t, "Shift of 3 columns", both(sky.Shift([][]int{{1, 2, 3}, {4, 5, 6}, {7, 8, 9}}, 1, 2)), is([][]int{{6, 4, 5}, {9, 7, 8}, {3, 1, 2}}))
}

// statistics returns the mean, the variance and the structure function, by their definitions.
func statistics(s [][]int, columns, rows int) (mean, variance, structure *big.Rat) {
	sum, squares, differences := new(big.Rat), new(big.Rat), new(big.Rat)
	for r := range s {
		for c, value := range s[r] {
			sum = plus(sum, integer(value))
			squares = plus(squares, integer(value*value))
			difference := integer(cellOf(s, c+columns, r+rows) - value)
			differences = plus(differences, times(difference, difference))
		}
	}
	cells := integer(len(s) * len(s))
	mean = over(sum, cells)
	return mean, minus(over(squares, cells), times(mean, mean)), over(differences, cells)
}

func TestStatistics(t *testing.T) {
	random := rand.New(rand.NewSource(4))
	for range 60 {
		s := someScreen(random, 16)
		for range 20 {
			all := steps(len(s))
			columns, rows := all[random.Intn(len(all))], all[random.Intn(len(all))]
			mean, variance, structure := statistics(s, columns, rows)
			want(t, "Mean", both(sky.Mean(s)), is(rat(mean)))
			want(t, "Variance", both(sky.Variance(s)), is(rat(variance)))
			want(t, "Structure", both(sky.Structure(s, columns, rows)), is(rat(structure)))
		}
	}
	checkers := filled(16, 1000)
	for r, row := range checkers {
		for c := range row {
			if (r+c)%2 == 1 {
				row[c] = -1000
			}
		}
	}
	want(t, "Mean of the greatest differences", both(sky.Mean(checkers)), is[api.Rat]("0"))
	want(t, "Variance of the greatest differences", both(sky.Variance(checkers)), is[api.Rat]("1000000"))
	want(t, "Structure of the greatest differences", both(sky.Structure(checkers, 999999999, 0)), is[api.Rat]("4000000"))
	want(t, "Structure of the least differences", both(sky.Structure(checkers, 999999999, -999999999)), is[api.Rat]("0"))
	want(t, "Mean of one cell", both(sky.Mean(filled(1, -7))), is[api.Rat]("-7"))
	want(t, "Variance of one cell", both(sky.Variance(filled(1, -7))), is[api.Rat]("0"))
	want(t, "Structure of one cell", both(sky.Structure(filled(1, -7), 5, -3)), is[api.Rat]("0"))
}

func TestWrongScreens(t *testing.T) {
	for _, w := range wrongScreens() {
		want(t, "Mean", both(sky.Mean(w.rows)), fails[api.Rat](w.e))
		want(t, "Variance", both(sky.Variance(w.rows)), fails[api.Rat](w.e))
		for _, n := range append(wrongInts(), 0) {
			want(t, "Shift", both(sky.Shift(w.rows, n, n)), fails[[][]int](w.e))
			want(t, "Structure", both(sky.Structure(w.rows, n, n)), fails[api.Rat](w.e))
		}
	}
	for _, n := range wrongInts() {
		for _, pair := range [][2]int{{n, 0}, {0, n}, {n, n}} {
			want(t, "Shift", both(sky.Shift(exampleScreen(), pair[0], pair[1])), fails[[][]int](api.ErrRange))
			want(t, "Structure", both(sky.Structure(exampleScreen(), pair[0], pair[1])), fails[api.Rat](api.ErrRange))
		}
	}
}
