package sky_test

import (
	"math/big"
	"math/rand"
	"slices"
	"strings"
	"testing"

	"lenslet/api"
	"lenslet/sky"
)

// P7.6

// matrixOf returns the matrix by its definition: each column has the phases of a screen that is 1 in a
// single cell.
func matrixOf(layers []sky.Layer, stars []sky.Star, places []api.Place, frame int) [][]api.Rat {
	var m [][]api.Rat
	for _, s := range stars {
		for _, p := range places {
			var row []api.Rat
			for _, l := range layers {
				side := len(l.Screen)
				for k := range side * side {
					l.Screen = filled(side, 0)
					l.Screen[k/side][k%side] = 1
					row = append(row, rat(phase([]sky.Layer{l}, s, p, frame)))
				}
			}
			m = append(m, row)
		}
	}
	return m
}

// gradient returns half of the gradient of the sum that a tomography makes least.
func gradient(m [][]api.Rat, phases []api.Rat, load api.Rat, x []api.Rat) []api.Rat {
	var rests []*big.Rat
	for i, row := range m {
		rest := minus(new(big.Rat), value(phases[i]))
		for j, a := range row {
			rest = plus(rest, times(value(a), value(x[j])))
		}
		rests = append(rests, rest)
	}
	var all []api.Rat
	for j := range m[0] {
		sum := times(value(load), value(x[j]))
		for i, row := range m {
			sum = plus(sum, times(value(row[j]), rests[i]))
		}
		all = append(all, rat(sum))
	}
	return all
}

// numbers returns rows of numbers with few digits.
func numbers(random *rand.Rand, rows, columns int) [][]api.Rat {
	m := make([][]api.Rat, rows)
	for i := range m {
		for range columns {
			m[i] = append(m[i], rat(small(random)))
		}
	}
	return m
}

// up returns the natural star in the middle.
func up() sky.Star { return sky.Star{Direction: origin(), Height: "0"} }

func TestExamplesOfTomography(t *testing.T) {
	want(t, "Matrix", both(sky.Matrix([]sky.Layer{example()}, []sky.Star{up()}, []api.Place{origin()}, 0)), is([][]api.Rat{list("1/2 0 0 0")}))
	want(t, "Tomography", both(sky.Tomography([][]api.Rat{list("1 1")}, list("3"), "1")), is(list("1 1")))
}

func TestMatrix(t *testing.T) {
	random := rand.New(rand.NewSource(41))
	frames := []int{0, 1, -1, 5, -12, api.MaxNumber, -api.MaxNumber}
	for i := range 200 {
		layers, places := someLayers(random, 1+i%4, 4), somePlaces(random, 1+random.Intn(10))
		stars := make([]sky.Star, 1+random.Intn(6))
		for k := range stars {
			stars[k] = someStar(random)
		}
		frame := frames[i%len(frames)]
		want(t, "Matrix", both(sky.Matrix(layers, stars, places, frame)), is(matrixOf(layers, stars, places, frame)))
	}
}

func TestMatrixAtItsEnds(t *testing.T) {
	single := withHeight("0")
	single.Screen = filled(1, 3)
	// The ray meets the only cell four times.
	want(t, "Matrix of one cell", both(sky.Matrix([]sky.Layer{single}, []sky.Star{up()}, []api.Place{at("1/2", "1/3")}, 0)), is([][]api.Rat{list("1/2")}))
	layers := []sky.Layer{withHeight("10"), single, withHeight("5")}
	want(t, "Matrix of layers at a laser star and below it", both(sky.Matrix(layers, []sky.Star{laser()}, []api.Place{at("1", "0")}, 0)), is([][]api.Rat{list("0 0 0 0 1/2 1/4 1/4 0 0")}))
	want(t, "Matrix of stars and places", both(sky.Matrix([]sky.Layer{withHeight("5")}, []sky.Star{up(), laser()}, []api.Place{origin(), at("1", "0")}, 0)), is([][]api.Rat{
		list("1/2 0 0 0"), list("0 1/2 0 0"), list("1/2 0 0 0"), list("1/4 1/4 0 0"),
	}))
	want(t, "Matrix of the strength 0", both(sky.Matrix([]sky.Layer{withStrength("0")}, []sky.Star{up()}, []api.Place{at(nines600, "1/"+nines600)}, 0)), is([][]api.Rat{list("0 0 0 0")}))
	want(t, "Matrix with 1200 digits", both(sky.Matrix([]sky.Layer{withHeight("0")}, []sky.Star{up()}, []api.Place{at("1/"+nines600, "1/"+nines600)}, 0)), fails[[][]api.Rat](api.ErrLarge))
	// The weights have 1200 digits, but their sum is 1.
	want(t, "Matrix by way of 1200 digits", both(sky.Matrix([]sky.Layer{single}, []sky.Star{up()}, []api.Place{at("1/"+nines600, "1/"+nines600)}, 0)), is([][]api.Rat{list("1/2")}))
	want(t, "Matrix with 600 digits", both(sky.Matrix([]sky.Layer{withStrength(nines600)}, []sky.Star{up()}, []api.Place{at("1", "0")}, 0)), is([][]api.Rat{{"0", nines600, "0", "0"}}))
}

// withSide returns the layer L of the chapter's examples with another side.
func withSide(side int) sky.Layer {
	l := example()
	l.Screen = filled(side, 1)
	return l
}

func TestMatrixLimits(t *testing.T) {
	places := slices.Repeat([]api.Place{origin()}, 256)
	sizes := func(layers []sky.Layer, stars, n int) [2]int {
		m, e := sky.Matrix(layers, slices.Repeat([]sky.Star{up()}, stars), places[:n], 0)
		if e != api.OK {
			want(t, "Matrix", both(m, e), fails[[][]api.Rat](api.ErrLimit))
			return [2]int{}
		}
		return [2]int{len(m), len(m[0])}
	}
	want(t, "64 rows of one star", sizes([]sky.Layer{withSide(1)}, 1, 64), [2]int{64, 1})
	want(t, "65 rows of one star", sizes([]sky.Layer{withSide(1)}, 1, 65), [2]int{})
	want(t, "64 rows of 4 stars", sizes([]sky.Layer{withSide(1)}, 4, 16), [2]int{64, 1})
	want(t, "65 rows of 5 stars", sizes([]sky.Layer{withSide(1)}, 5, 13), [2]int{})
	want(t, "66 rows of 6 stars", sizes([]sky.Layer{withSide(1)}, 6, 11), [2]int{})
	want(t, "1536 rows", sizes([]sky.Layer{withSide(1)}, 6, 256), [2]int{})
	want(t, "64 columns of one layer", sizes([]sky.Layer{withSide(8)}, 1, 1), [2]int{1, 64})
	want(t, "81 columns of one layer", sizes([]sky.Layer{withSide(9)}, 1, 1), [2]int{})
	want(t, "64 columns of 4 layers", sizes(slices.Repeat([]sky.Layer{withSide(4)}, 4), 1, 1), [2]int{1, 64})
	want(t, "65 columns of 2 layers", sizes([]sky.Layer{withSide(8), withSide(1)}, 1, 1), [2]int{})
	want(t, "65 columns of 3 layers", sizes([]sky.Layer{withSide(6), withSide(5), withSide(2)}, 1, 1), [2]int{})
	want(t, "64 rows and columns", sizes(slices.Repeat([]sky.Layer{withSide(4)}, 4), 4, 16), [2]int{64, 64})
	want(t, "1024 columns", sizes(slices.Repeat([]sky.Layer{withSide(16)}, 4), 1, 1), [2]int{})
	wide := withSide(9)
	wide.Strength = nines600
	want(t, "81 columns with large numbers", sizes([]sky.Layer{wide}, 1, 1), [2]int{})
}

func TestWrongMatrices(t *testing.T) {
	l, s, p := []sky.Layer{withSide(9)}, []sky.Star{laser()}, []api.Place{origin()}
	layers := append(layerLists(), wrongList[sky.Layer]{nil, api.ErrEmpty})
	stars := append(starLists(), wrongList[sky.Star]{nil, api.ErrEmpty})
	places := append(placeLists(), wrongList[api.Place]{nil, api.ErrEmpty})
	for _, w := range layers {
		for _, wrong := range stars[len(stars)-3:] {
			want(t, "Matrix", both(sky.Matrix(w.list, wrong.list, nil, far)), fails[[][]api.Rat](w.e))
		}
		want(t, "Matrix", both(sky.Matrix(w.list, s, p, 0)), fails[[][]api.Rat](w.e))
	}
	for _, w := range stars {
		for _, wrong := range places[len(places)-3:] {
			want(t, "Matrix", both(sky.Matrix(l, w.list, wrong.list, far)), fails[[][]api.Rat](w.e))
		}
		want(t, "Matrix", both(sky.Matrix(l, w.list, p, 0)), fails[[][]api.Rat](w.e))
	}
	for _, w := range places {
		for _, frame := range append(wrongInts(), 0) {
			want(t, "Matrix", both(sky.Matrix(l, s, w.list, frame)), fails[[][]api.Rat](w.e))
		}
	}
	for _, frame := range wrongInts() {
		want(t, "Matrix", both(sky.Matrix(l, s, p, frame)), fails[[][]api.Rat](api.ErrRange))
	}
}

func TestTomography(t *testing.T) {
	random := rand.New(rand.NewSource(42))
	loads := list("1 1/7 12 1/1000000000 1000000000")
	for i := range 200 {
		rows, columns := 1+random.Intn(7), 1+random.Intn(7)
		m, phases, load := numbers(random, rows, columns), numbers(random, 1, rows)[0], loads[i%len(loads)]
		x, e := sky.Tomography(m, phases, load)
		want(t, "error of Tomography", e, api.OK)
		want(t, "the number of columns", len(x), columns)
		want(t, "the gradient", gradient(m, phases, load, x), slices.Repeat(list("0"), columns))
	}
	for _, size := range [][2]int{{1, 64}, {64, 1}, {64, 64}, {40, 64}} {
		m, phases := make([][]api.Rat, size[0]), slices.Repeat(list("1 -2 0 3"), 16)[:size[0]]
		for i := range m {
			for range size[1] {
				m[i] = append(m[i], rat(integer(random.Intn(5)-2)))
			}
		}
		x, e := sky.Tomography(m, phases, "3/2")
		want(t, "error of Tomography", e, api.OK)
		want(t, "the gradient", gradient(m, phases, "3/2", x), slices.Repeat(list("0"), size[1]))
	}
}

func TestTomographyAtItsEnds(t *testing.T) {
	for _, row := range []struct {
		m            [][]api.Rat
		phases, load string
		x            string
	}{
		{[][]api.Rat{list("1")}, "3", "2", "1"},
		{[][]api.Rat{list("0")}, "3", "1/9", "0"},
		{[][]api.Rat{list("0 0"), list("0 0")}, "3 1", "1", "0 0"},
		{[][]api.Rat{list("1"), list("1")}, "3 0", "1", "1"},
		{[][]api.Rat{list("1 0"), list("0 2")}, "4 5", "1", "2 2"},
		{[][]api.Rat{list("1 1"), list("1 1")}, "1 4", "1", "1 1"}, // equal columns
		{[][]api.Rat{list("1 -1 1")}, "-2", "1", "-1/2 1/2 -1/2"},
		{[][]api.Rat{list("1 2")}, "0", "5", "0 0"},
	} {
		want(t, "Tomography", both(sky.Tomography(row.m, list(row.phases), api.Rat(row.load))), is(list(row.x)))
	}
	one := [][]api.Rat{list("1")}
	want(t, "Tomography with a large load", both(sky.Tomography(one, list("1"), nines600[1:]+"8")), is([]api.Rat{"1/" + nines600}))
	want(t, "Tomography with a larger load", both(sky.Tomography(one, list("1"), nines600)), fails[[]api.Rat](api.ErrLarge))
	want(t, "Tomography with a small load", both(sky.Tomography(one, list("1"), "1/"+nines600)), fails[[]api.Rat](api.ErrLarge))
	want(t, "Tomography with large phases", both(sky.Tomography(one, []api.Rat{nines600}, "1/2")), is([]api.Rat{api.Rat(strings.Repeat("6", api.MaxDigits))}))
}

func TestTomographyOfManyDigits(t *testing.T) {
	random := rand.New(rand.NewSource(43))
	phases := slices.Repeat(list("1"), 64)
	want(t, "Tomography of 64 rows with a large load", both(sky.Tomography(numbers(random, 64, 64), phases, nines600)), fails[[]api.Rat](api.ErrLarge))
	// All cells are the same, as all columns are: the numbers of the result have 500 digits.
	ones := slices.Repeat([][]api.Rat{phases}, 64)
	load := power10(500)
	same := rat(over(integer(64), plus(value(load), integer(64*64))))
	want(t, "Tomography of equal columns", both(sky.Tomography(ones, phases, load)), is(slices.Repeat([]api.Rat{same}, 64)))
	m := [][]api.Rat{{nines600, "0"}, {"0", "-1/" + nines600}, {"0", nines600}}
	want(t, "Tomography without phases", both(sky.Tomography(m, list("0 0 0"), "1/"+nines600)), is(list("0 0")))
	want(t, "Tomography of a cell with few digits", both(sky.Tomography([][]api.Rat{{power10(300)}}, list("3"), power10(300))), is([]api.Rat{rat(over(integer(3), plus(value(power10(300)), integer(1))))}))
	// The cell is p^67 / (p^67 + 1) for this prime p, which has the remainder 0 for high powers of p.
	power := func(exponent int64) api.Rat {
		return api.Rat(new(big.Int).Exp(big.NewInt(2305843009213693951), big.NewInt(exponent), nil).String())
	}
	want(t, "Tomography of a cell like 0", both(sky.Tomography([][]api.Rat{{power(32)}}, []api.Rat{power(32)}, "1/"+power(3))), fails[[]api.Rat](api.ErrLarge))
	// A solution has to be found although the prime 2^61 - 1 divides the determinant.
	want(t, "Tomography with a prime load", both(sky.Tomography([][]api.Rat{list("1 2")}, list("1"), "2305843009213693946")), is(list("1/2305843009213693951 2/2305843009213693951")))
}

// wrongMatrix is a matrix with its first error.
type wrongMatrix struct {
	m [][]api.Rat
	e api.Errno
}

// wrongMatrices are matrices with an error.
func wrongMatrices() []wrongMatrix {
	long := slices.Repeat(list("?"), 65)
	all := []wrongMatrix{
		{nil, api.ErrEmpty},
		{make([][]api.Rat, 65), api.ErrMany},
		{[][]api.Rat{{}}, api.ErrEmpty},
		{[][]api.Rat{list("1"), nil}, api.ErrEmpty},
		{[][]api.Rat{long}, api.ErrMany},
		{[][]api.Rat{list("1"), long}, api.ErrMany},
		{[][]api.Rat{list("1"), list("? 2")}, api.ErrShape},
		{[][]api.Rat{list("1 ?"), list("1")}, api.ErrForm},
	}
	for _, w := range wrongRats() {
		all = append(all, wrongMatrix{[][]api.Rat{{"1", w.a}, {"?"}}, w.e}, wrongMatrix{[][]api.Rat{{"1", "2"}, {w.a, "1"}}, w.e})
	}
	return all
}

func TestWrongTomographies(t *testing.T) {
	m := [][]api.Rat{list("1 2"), list("3 4")}
	for _, w := range wrongMatrices() {
		for _, phases := range [][]api.Rat{nil, {"?"}, {digits601}, list("1 2")} {
			for _, load := range []api.Rat{"?", "0", "1"} {
				want(t, "Tomography", both(sky.Tomography(w.m, phases, load)), fails[[]api.Rat](w.e))
			}
		}
	}
	for _, w := range wrongRats() {
		for _, phases := range [][]api.Rat{{w.a}, {w.a, "?"}, {"1", w.a}, {"1", "2", w.a, digits601}} {
			for _, load := range []api.Rat{"?", "0", "1"} {
				want(t, "Tomography", both(sky.Tomography(m, phases, load)), fails[[]api.Rat](w.e))
			}
		}
	}
	for _, phases := range [][]api.Rat{nil, list("1"), list("1 2 3"), slices.Repeat(list("1"), 300)} {
		for _, w := range wrongRats("0", "-1", "-1/"+nines600) {
			want(t, "Tomography", both(sky.Tomography(m, phases, w.a)), fails[[]api.Rat](w.e))
		}
		want(t, "Tomography", both(sky.Tomography(m, phases, "1")), fails[[]api.Rat](api.ErrShape))
	}
	for _, w := range wrongRats("0", "-1", "-1/"+nines600) {
		want(t, "Tomography", both(sky.Tomography(m, list("1 2"), w.a)), fails[[]api.Rat](w.e))
	}
}
