package sensor_test

import (
	"math/big"
	"math/rand"
	"testing"

	"lenslet/api"
	"lenslet/sensor"
)

// P3.4

func TestSlopeExamples(t *testing.T) {
	places := [][2]api.Rat{{"0", "0"}, {"1/4", "-1/2"}}
	want(t, "Spots", both(sensor.Spots(example(), places, "4")), is(rows(4, 1, 1, 1, 3, 1, 1, 0, 0)))
	want(t, "Slopes", both(sensor.Slopes(places, [][2]api.Rat{{"0", "0"}, {"0", "0"}})), is([]api.Rat{"0", "0", "1/4", "-1/2"}))
}

// someCentroids returns centroids with few digits.
func someCentroids(random *rand.Rand, n int) [][2]api.Rat {
	var list [][2]api.Rat
	for range n {
		list = append(list, [2]api.Rat{rat(small(random)), rat(small(random))})
	}
	return list
}

func TestSlopes(t *testing.T) {
	random := rand.New(rand.NewSource(31))
	for n := range 65 {
		centroids, reference := someCentroids(random, n), someCentroids(random, n)
		var slopes []api.Rat
		for k := range n {
			switch k % 5 {
			case 1:
				reference[k] = centroids[k]
			case 2:
				reference[k][0] = centroids[k][0]
			case 3:
				reference[k][1] = centroids[k][1]
			}
			for axis := range 2 {
				slopes = append(slopes, rat(minus(value(centroids[k][axis]), value(reference[k][axis]))))
			}
		}
		want(t, "Slopes", both(sensor.Slopes(centroids, reference)), is(slopes))
	}
}

// wrongCentroids are lists of centroids with their first error.
func wrongCentroids() []struct {
	list [][2]api.Rat
	e    api.Errno
} {
	type row = struct {
		list [][2]api.Rat
		e    api.Errno
	}
	list := []row{
		{make([][2]api.Rat, 65), api.ErrMany},
		{[][2]api.Rat{{digits601, "x"}}, api.ErrLarge},
		{[][2]api.Rat{{"1", digits601}, {"x", "x"}}, api.ErrLarge},
		{[][2]api.Rat{{"1", "x"}, {digits601, "1"}}, api.ErrForm},
	}
	for _, a := range wrong() {
		list = append(list, row{[][2]api.Rat{{a, digits601}}, api.ErrForm}, row{[][2]api.Rat{{"1", "2"}, {"3", a}, {digits601, "1"}}, api.ErrForm})
	}
	return list
}

func TestSlopeErrors(t *testing.T) {
	failed := func(e api.Errno) result[[]api.Rat] { return fails[[]api.Rat](e) }
	for _, row := range wrongCentroids() {
		want(t, "Slopes", both(sensor.Slopes(row.list, make([][2]api.Rat, 66))), failed(row.e))
		want(t, "Slopes", both(sensor.Slopes(row.list, row.list)), failed(row.e))
		want(t, "Slopes", both(sensor.Slopes(nil, row.list)), failed(row.e))
	}
	one := [][2]api.Rat{{"1", "2"}}
	want(t, "fewer references", both(sensor.Slopes(one, nil)), failed(api.ErrShape))
	want(t, "more references", both(sensor.Slopes(one, [][2]api.Rat{{"1", "2"}, {"1", "2"}})), failed(api.ErrShape))
	want(t, "nothing", both(sensor.Slopes(nil, [][2]api.Rat{})), is[[]api.Rat](nil))
	nines := "-" + nines600
	want(t, "a slope with too many digits", both(sensor.Slopes([][2]api.Rat{{"0", "0"}, {nines600, "0"}}, [][2]api.Rat{{"0", "0"}, {"-1", "0"}})), failed(api.ErrLarge))
	want(t, "a slope with too many digits", both(sensor.Slopes([][2]api.Rat{{"0", nines}}, [][2]api.Rat{{"0", "1"}})), failed(api.ErrLarge))
	want(t, "slopes with many digits", both(sensor.Slopes([][2]api.Rat{{nines600, nines}}, [][2]api.Rat{{"0", nines}})), is([]api.Rat{nines600, "0"}))
	want(t, "the same centroid with many digits", both(sensor.Slopes([][2]api.Rat{{nines600, nines}}, [][2]api.Rat{{nines600, nines}})), is([]api.Rat{"0", "0"}))
}

// spots returns the frame of spots, by its definition.
func spots(g sensor.Geometry, places [][2]api.Rat, flux *big.Rat) result[[][]float32] {
	var frame [][]float32
	for k := range g.Rows * g.Side {
		var row []float32
		for i := range g.Columns * g.Side {
			place := places[k/g.Side*g.Columns+i/g.Side]
			share := times(flux, times(tent(value(place[0]), coordinate(i%g.Side, g.Side)), tent(value(place[1]), coordinate(k%g.Side, g.Side))))
			f, ok := nearest(share)
			if !ok {
				return fails[[][]float32](api.ErrLarge)
			}
			row = append(row, f)
		}
		frame = append(frame, row)
	}
	return is(frame)
}

// tent returns what part of a spot at one coordinate the pixel at another one has.
func tent(x, centre *big.Rat) *big.Rat {
	part := minus(integer(1), new(big.Rat).Abs(minus(x, centre)))
	if part.Sign() < 0 {
		return new(big.Rat)
	}
	return part
}

// somePlaces returns places in the subapertures, often at a pixel, in the middle of two, or at the ends.
func somePlaces(random *rand.Rand, g sensor.Geometry) [][2]api.Rat {
	coordinate := func() api.Rat {
		parts := []int{1, 2, 3, 4, 7, 1000}[random.Intn(6)]
		x := big.NewRat(int64(random.Intn((g.Side-1)*parts+1)), int64(parts))
		return rat(minus(x, big.NewRat(int64(g.Side-1), 2)))
	}
	var places [][2]api.Rat
	for range g.Columns * g.Rows {
		places = append(places, [2]api.Rat{coordinate(), coordinate()})
	}
	return places
}

func TestSpots(t *testing.T) {
	random := rand.New(rand.NewSource(32))
	for range 300 {
		g := sensor.Geometry{Columns: 1 + random.Intn(3), Rows: 1 + random.Intn(3), Side: 2 + random.Intn(7)}
		places := somePlaces(random, g)
		flux := new(big.Rat).Abs(small(random))
		if random.Intn(3) == 0 {
			flux = times(flux, power2(random.Intn(280)-152))
		}
		want(t, "Spots", both(sensor.Spots(g, places, rat(flux))), spots(g, places, flux))
	}
	g := largest()
	places := somePlaces(random, g)
	want(t, "Spots, the largest frame", both(sensor.Spots(g, places, "1000")), spots(g, places, integer(1000)))
}

func TestSpotEdges(t *testing.T) {
	g := single(2)
	at := func(x, y, flux api.Rat) result[[][]float32] {
		return both(sensor.Spots(g, [][2]api.Rat{{x, y}}, flux))
	}
	failed := fails[[][]float32](api.ErrLarge)
	want(t, "the first pixel", at("-1/2", "-1/2", "5"), is(rows(2, 5, 0, 0, 0)))
	want(t, "the last pixel", at("1/2", "1/2", "5"), is(rows(2, 0, 0, 0, 5)))
	want(t, "the last column", at("1/2", "-1/2", "5"), is(rows(2, 0, 5, 0, 0)))
	want(t, "the last row", at("-1/2", "1/2", "5"), is(rows(2, 0, 0, 5, 0)))
	want(t, "no flux", at("0", "1/3", "0"), is(rows(2, 0, 0, 0, 0)))
	want(t, "a small flux", at("0", "0", rat(exactly(least))), is(rows(2, 0, 0, 0, 0)))
	want(t, "too large a flux", at("-1/2", "-1/2", rat(power2(128))), failed)
	want(t, "too large a flux, but not for its parts", at("0", "-1/2", rat(power2(128))), is(rows(2, 1<<127, 1<<127, 0, 0)))
	want(t, "a flux that rounds down", at("1/2", "-1/2", rat(minus(power2(128), plus(power2(103), integer(1))))), is(rows(2, 0, greatest, 0, 0)))
	want(t, "a flux that rounds up", at("1/2", "-1/2", rat(minus(power2(128), power2(103)))), failed)
	want(t, "too large a flux in the last pixel", both(sensor.Spots(example(), [][2]api.Rat{{"0", "0"}, {"1/2", "1/2"}}, rat(power2(128)))), failed)
	// Shares with more digits than the limit: their floats are results, they themselves are not.
	third := rat(over(integer(1), minus(value(nines600), integer(2))))
	want(t, "many digits", at("1/"+nines600, third, "4"), is(rows(2, 1, 1, 1, 1)))
	nines := value(nines600[1:])
	flux := over(minus(nines, integer(2)), minus(nines, integer(1))) // just below 1
	places := [][2]api.Rat{{rat(minus(big.NewRat(1, 2), over(integer(1), nines))), rat(over(integer(-7), nines))}}
	want(t, "many digits", both(sensor.Spots(g, places, rat(flux))), spots(g, places, flux))
}

func TestSpotErrors(t *testing.T) {
	g := example()
	failed := func(e api.Errno) result[[][]float32] { return fails[[][]float32](e) }
	for _, g := range wrongGeometries() {
		want(t, "Spots", both(sensor.Spots(g, nil, "x")), failed(api.ErrRange))
		want(t, "Spots", both(sensor.Spots(g, [][2]api.Rat{{"x", "x"}}, "x")), failed(api.ErrRange))
	}
	for _, places := range [][][2]api.Rat{nil, {{"x", "x"}}, {{"0", "0"}, {"0", "0"}, {"x", "0"}}, make([][2]api.Rat, 4)} {
		want(t, "Spots", both(sensor.Spots(g, places, "x")), failed(api.ErrShape))
	}
	outside := []api.Rat{"2/3", "-2/3", "501/1000", "-501/1000", "1", "-1", nines600, "-" + nines600}
	for _, row := range []struct {
		places [][2]api.Rat
		e      api.Errno
	}{
		{[][2]api.Rat{{"x", digits601}, {"1", "1"}}, api.ErrForm},
		{[][2]api.Rat{{digits601, "x"}, {"x", "x"}}, api.ErrLarge},
		{[][2]api.Rat{{"1", "x"}, {digits601, "0"}}, api.ErrForm},
		{[][2]api.Rat{{"1", digits601}, {"x", "0"}}, api.ErrLarge},
		{[][2]api.Rat{{"0", "1"}, {"x", "0"}}, api.ErrOutside},
		{[][2]api.Rat{{"0", "0"}, {"0", "2/4"}}, api.ErrForm},
	} {
		want(t, "Spots", both(sensor.Spots(g, row.places, "-1")), failed(row.e))
	}
	for _, a := range outside {
		want(t, "Spots", both(sensor.Spots(g, [][2]api.Rat{{a, "0"}, {"x", "x"}}, "x")), failed(api.ErrOutside))
		want(t, "Spots", both(sensor.Spots(g, [][2]api.Rat{{"0", "0"}, {"1/2", a}}, "x")), failed(api.ErrOutside))
	}
	for side := 2; side <= 8; side++ {
		end := big.NewRat(int64(side-1), 2)
		beyond := plus(end, power2(-1900))
		want(t, "a place beyond the end", both(sensor.Spots(single(side), [][2]api.Rat{{rat(end), rat(beyond)}}, "1")), failed(api.ErrOutside))
		want(t, "a place at the ends", both(sensor.Spots(single(side), [][2]api.Rat{{rat(end), rat(minus(new(big.Rat), end))}}, "1")), spots(single(side), [][2]api.Rat{{rat(end), rat(minus(new(big.Rat), end))}}, integer(1)))
	}
	for _, row := range wrongSizes() {
		want(t, "Spots", both(sensor.Spots(g, [][2]api.Rat{{"0", "0"}, {"0", "0"}}, row.a)), failed(row.e))
	}
}
