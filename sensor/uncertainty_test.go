package sensor_test

import (
	"math/big"
	"math/rand"
	"strings"
	"testing"

	"lenslet/api"
	"lenslet/sensor"
)

// P3.3

func TestUncertainExample(t *testing.T) {
	frame := rows(4, 1, 3, 0, 0, 0, 0, 2, 2)
	want(t, "Uncertain", both(sensor.Uncertain(example(), frame, 0, "1")), is([2]api.Span{{Low: "-1/10", High: "1/2"}, {Low: "-1/2", High: "0"}}))
}

// widened returns the least and the greatest counts with an error.
func widened(counts table, e *big.Rat) (lows, highs table) {
	return less(counts, e), less(counts, new(big.Rat).Neg(e))
}

// extremes returns the least and the greatest centroid, by columns and by rows, of all tables with
// the least or the greatest count in each pixel; they are the corners of all possible counts.
func extremes(lows, highs table) [2][2]*big.Rat {
	side := len(lows)
	var all [2][2]*big.Rat
	for choice := range 1 << (side * side) {
		var counts table
		for k := range side {
			var row []*big.Rat
			for i := range side {
				if choice>>(k*side+i)&1 == 0 {
					row = append(row, lows[k][i])
				} else {
					row = append(row, highs[k][i])
				}
			}
			counts = append(counts, row)
		}
		_, place := centroid(counts)
		for axis, x := range place {
			if all[axis][0] == nil || x.Cmp(all[axis][0]) < 0 {
				all[axis][0] = x
			}
			if all[axis][1] == nil || x.Cmp(all[axis][1]) > 0 {
				all[axis][1] = x
			}
		}
	}
	return all
}

// lineSums returns the sums of the counts of each column, or of each row. A centroid depends on
// them alone, and they have few corners.
func lineSums(counts table, axis int) []*big.Rat {
	sums := make([]*big.Rat, len(counts))
	for i := range sums {
		sums[i] = new(big.Rat)
		for k := range sums {
			count := counts[k][i]
			if axis == 1 {
				count = counts[i][k]
			}
			sums[i] = plus(sums[i], count)
		}
	}
	return sums
}

// lineExtremes returns the least and the greatest mean coordinate with the least or the greatest
// sum for each column.
func lineExtremes(lows, highs []*big.Rat) [2]*big.Rat {
	var all [2]*big.Rat
	for choice := range 1 << len(lows) {
		sum, flux := new(big.Rat), new(big.Rat)
		for i := range lows {
			count := lows[i]
			if choice>>i&1 == 1 {
				count = highs[i]
			}
			sum, flux = plus(sum, times(coordinate(i, len(lows)), count)), plus(flux, count)
		}
		x := over(sum, flux)
		if all[0] == nil || x.Cmp(all[0]) < 0 {
			all[0] = x
		}
		if all[1] == nil || x.Cmp(all[1]) > 0 {
			all[1] = x
		}
	}
	return all
}

// uncertain returns the spans of the centroid, by their definition.
func uncertain(g sensor.Geometry, frame [][]float32, lenslet int, e *big.Rat) result[[2]api.Span] {
	counts := behind(g, frame, lenslet)
	for _, row := range counts {
		for _, count := range row {
			if count.Sign() < 0 {
				return fails[[2]api.Span](api.ErrRange)
			}
		}
	}
	lows, highs := widened(counts, e)
	if flux, _ := centroid(lows); flux.Sign() == 0 {
		return fails[[2]api.Span](api.ErrZero)
	}
	var all [2][2]*big.Rat
	if g.Side <= 3 {
		all = extremes(lows, highs)
	} else {
		for axis := range all {
			all[axis] = lineExtremes(lineSums(lows, axis), lineSums(highs, axis))
		}
	}
	var spans [2]api.Span
	for axis, ends := range all {
		if !fits(ends[0]) || !fits(ends[1]) {
			return fails[[2]api.Span](api.ErrLarge)
		}
		spans[axis] = api.Span{Low: rat(ends[0]), High: rat(ends[1])}
	}
	return is(spans)
}

func TestUncertain(t *testing.T) {
	random := rand.New(rand.NewSource(21))
	found := map[api.Errno]int{}
	for range 300 {
		g := sensor.Geometry{Columns: 1 + random.Intn(3), Rows: 1 + random.Intn(3), Side: 2 + random.Intn(7)}
		if random.Intn(2) == 0 {
			g.Side = 2 + random.Intn(2)
		}
		frame := frameOf(g, func() float32 { return float32(random.Intn(20)) / 4 })
		if random.Intn(5) == 0 {
			frame = someFrame(random, g)
		}
		lenslet := random.Intn(g.Columns * g.Rows)
		e := new(big.Rat).Abs(small(random))
		wanted := uncertain(g, frame, lenslet, e)
		want(t, "Uncertain", both(sensor.Uncertain(g, frame, lenslet, rat(e))), wanted)
		found[wanted.Error]++
	}
	want(t, "spans and errors", found[api.OK] > 100 && found[api.ErrZero] > 10 && found[api.ErrRange] > 10, true)
	frame := positiveFrame(random, largest())
	want(t, "the last lenslet", both(sensor.Uncertain(largest(), frame, 63, "1/7")), uncertain(largest(), frame, 63, big.NewRat(1, 7)))
}

func TestUncertainEdges(t *testing.T) {
	g := single(2)
	failed := func(e api.Errno) result[[2]api.Span] { return fails[[2]api.Span](e) }
	frame := rows(2, 1, 3, 0, 0)
	point := is([2]api.Span{{Low: "1/4", High: "1/4"}, {Low: "-1/2", High: "-1/2"}})
	want(t, "no error", both(sensor.Uncertain(g, frame, 0, "0")), point)
	want(t, "no error, with -0", both(sensor.Uncertain(g, rows(2, 1, 3, minus0, 0), 0, "0")), point)
	want(t, "an error above all counts but one", both(sensor.Uncertain(g, frame, 0, "2")), is([2]api.Span{{Low: "-1/3", High: "1/2"}, {Low: "-1/2", High: "3/10"}}))
	want(t, "an error that is the greatest count", both(sensor.Uncertain(g, frame, 0, "3")), failed(api.ErrZero))
	want(t, "an error above all counts", both(sensor.Uncertain(g, frame, 0, nines600)), failed(api.ErrZero))
	want(t, "no counts", both(sensor.Uncertain(g, even(g, 0), 0, "0")), failed(api.ErrZero))
	want(t, "a negative count", both(sensor.Uncertain(g, rows(2, 1, 3, 0, -least), 0, "0")), failed(api.ErrRange))
	want(t, "a negative count and an error above all counts", both(sensor.Uncertain(g, rows(2, -1, 3, 0, 0), 0, "9")), failed(api.ErrRange))
	want(t, "a negative count behind another lenslet", both(sensor.Uncertain(example(), rows(4, 1, 3, -1, 0, 0, 0, 0, 0), 0, "0")), point)
	want(t, "no counts behind another lenslet", both(sensor.Uncertain(example(), rows(4, 0, 0, 1, 3, 0, 0, 0, 0), 1, "0")), point)
	want(t, "an error with many digits", both(sensor.Uncertain(g, rows(2, 1000, 1, 3, 0), 0, "1/"+nines600)), failed(api.ErrLarge))
	want(t, "an error with many digits, no counts", both(sensor.Uncertain(g, even(g, 0), 0, "1/"+nines600)), failed(api.ErrZero))
	for _, digits := range []int{585, 590, 594, 595, 596, 597, 598, 599, 600} {
		e := new(big.Rat).Inv(value(api.Rat(strings.Repeat("7", digits))))
		for _, counts := range [][]float32{{1, 3, 0, 0}, {1, 0, 3, 0}, {0, 3, 0, 1}} {
			frame := rows(2, counts...)
			want(t, "digits", both(sensor.Uncertain(g, frame, 0, rat(e))), uncertain(g, frame, 0, e))
		}
	}
}

func TestUncertainErrors(t *testing.T) {
	g := example()
	failed := func(e api.Errno) result[[2]api.Span] { return fails[[2]api.Span](e) }
	for _, row := range wrongFrames() {
		want(t, "Uncertain", both(sensor.Uncertain(g, row.frame, -1, "x")), failed(row.e))
	}
	for _, g := range wrongGeometries() {
		want(t, "Uncertain", both(sensor.Uncertain(g, anyWrong(), 0, "x")), failed(api.ErrRange))
	}
	for _, lenslet := range []int{-1, 2, 4, far, -far - 1} {
		want(t, "Uncertain", both(sensor.Uncertain(g, even(g, 1), lenslet, "x")), failed(api.ErrRange))
	}
	for _, row := range wrongSizes() {
		want(t, "Uncertain", both(sensor.Uncertain(g, even(g, 0), 1, row.a)), failed(row.e))
	}
}
