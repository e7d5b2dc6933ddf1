package sensor_test

import (
	"math/big"
	"math/rand"
	"strings"
	"testing"

	"lenslet/api"
	"lenslet/sensor"
)

// P3.2

func TestCentroidExamples(t *testing.T) {
	frame := rows(4, 1, 3, 0, 0, 0, 0, 2, 2)
	want(t, "Flux", both(sensor.Flux(example(), frame)), is([]api.Rat{"4", "4"}))
	want(t, "Centroids", both(sensor.Centroids(example(), frame)), is([][2]api.Rat{{"1/4", "-1/2"}, {"0", "1/2"}}))
	want(t, "Thresholded", both(sensor.Thresholded(example(), frame, "1")), is([][2]api.Rat{{"1/2", "-1/2"}, {"0", "1/2"}}))
	want(t, "Correlated", both(sensor.Correlated(single(2), rows(2, 0, 0, 0, 5), rows(2, 0, 1, 0, 0), 1)), is([][2]int{{0, 1}}))
}

// less returns the counts less a level, where 0 replaces those below 0.
func less(counts table, level *big.Rat) table {
	var all table
	for _, row := range counts {
		var list []*big.Rat
		for _, count := range row {
			x := minus(count, level)
			if x.Sign() < 0 {
				x = new(big.Rat)
			}
			list = append(list, x)
		}
		all = append(all, list)
	}
	return all
}

// centroidsOf returns the centroids of the counts that a function makes of those behind each lenslet.
func centroidsOf(g sensor.Geometry, frame [][]float32, made func(table) table) result[[][2]api.Rat] {
	var all [][2]api.Rat
	large := false
	for lenslet := range g.Columns * g.Rows {
		flux, place := centroid(made(behind(g, frame, lenslet)))
		if flux.Sign() <= 0 {
			return fails[[][2]api.Rat](api.ErrZero)
		}
		large = large || !fits(place[0]) || !fits(place[1])
		all = append(all, [2]api.Rat{rat(place[0]), rat(place[1])})
	}
	if large {
		return fails[[][2]api.Rat](api.ErrLarge)
	}
	return is(all)
}

func TestFluxAndCentroids(t *testing.T) {
	random := rand.New(rand.NewSource(11))
	found := map[api.Errno]int{}
	for k := range 400 {
		g := someGeometry(random)
		frame := someFrame(random, g)
		if k%2 == 0 {
			frame = positiveFrame(random, g)
		}
		var fluxes []api.Rat
		for lenslet := range g.Columns * g.Rows {
			flux, _ := centroid(behind(g, frame, lenslet))
			fluxes = append(fluxes, rat(flux))
		}
		want(t, "Flux", both(sensor.Flux(g, frame)), is(fluxes))
		wanted := centroidsOf(g, frame, func(counts table) table { return counts })
		want(t, "Centroids", both(sensor.Centroids(g, frame)), wanted)
		found[wanted.Error]++
		level := new(big.Rat).Abs(small(random))
		wanted = centroidsOf(g, frame, func(counts table) table { return less(counts, level) })
		want(t, "Thresholded", both(sensor.Thresholded(g, frame, rat(level))), wanted)
		found[wanted.Error]++
	}
	want(t, "centroids and errors", found[api.OK] > 100 && found[api.ErrZero] > 100, true)
	frame := positiveFrame(random, largest())
	want(t, "Centroids, the largest frame", both(sensor.Centroids(largest(), frame)), centroidsOf(largest(), frame, func(counts table) table { return counts }))
}

func TestCentroidEdges(t *testing.T) {
	g := single(2)
	failed := fails[[][2]api.Rat](api.ErrZero)
	for what, row := range map[string]struct {
		frame [][]float32
		r     result[[][2]api.Rat]
	}{
		"a flux of 0":                    {rows(2, 0, 0, minus0, 0), failed},
		"a flux of 0 of counts":          {rows(2, 1, -1, 2, -2), failed},
		"a flux below 0":                 {rows(2, 1, -2, 0, 0), failed},
		"the least flux below 0":         {rows(2, 1, -1, 0, -least), failed},
		"the least flux":                 {rows(2, 1, -1, 0, least), is([][2]api.Rat{{rat(minus(big.NewRat(1, 2), power2(149))), "1/2"}})},
		"the least count":                {rows(2, 0, 0, least, 0), is([][2]api.Rat{{"-1/2", "1/2"}})},
		"the greatest counts":            {rows(2, greatest, greatest, greatest, greatest), is([][2]api.Rat{{"0", "0"}})},
		"a centroid beyond the pixels":   {rows(2, -1, 2, 0, 0), is([][2]api.Rat{{"3/2", "-1/2"}})},
		"a great count and the least":    {rows(2, greatest, least, 0, 0), is([][2]api.Rat{{rat(over(minus(exactly(least), exactly(greatest)), times(integer(2), plus(exactly(least), exactly(greatest))))), "-1/2"}})},
		"counts that floats would lose":  {rows(2, 16777216, 1, 0, 0), is([][2]api.Rat{{"-16777215/33554434", "-1/2"}})},
		"counts that floats would merge": {rows(2, greatest, 1, -greatest, 0), is([][2]api.Rat{{"1/2", rat(minus(big.NewRat(-1, 2), exactly(greatest)))}})},
	} {
		want(t, "Centroids of "+what, both(sensor.Centroids(g, row.frame)), row.r)
	}
	want(t, "the second lenslet without flux", both(sensor.Centroids(example(), rows(4, 1, 3, 0, 0, 0, 0, 1, -1))), failed)
	want(t, "Flux of 0 and below", both(sensor.Flux(example(), rows(4, 1, -1, 0, 0, 0, minus0, 1, -2))), is([]api.Rat{"0", "-1"}))
	want(t, "Flux of the least and the greatest counts", both(sensor.Flux(g, rows(2, greatest, least, greatest, -least))), is([]api.Rat{rat(times(integer(2), exactly(greatest)))}))
}

func TestThresholdedEdges(t *testing.T) {
	g := single(2)
	failed := func(e api.Errno) result[[][2]api.Rat] { return fails[[][2]api.Rat](e) }
	frame := rows(2, 1, 3, 0, 2)
	want(t, "a level of 0 without negative counts", both(sensor.Thresholded(g, rows(2, 1, 3, -5, 0), "0")), is([][2]api.Rat{{"1/4", "-1/2"}}))
	want(t, "a level between the counts", both(sensor.Thresholded(g, frame, "3/2")), is([][2]api.Rat{{"1/2", "-1/4"}}))
	want(t, "a level just below all counts", both(sensor.Thresholded(g, frame, rat(minus(integer(3), power2(-149))))), is([][2]api.Rat{{"1/2", "-1/2"}}))
	want(t, "a level at the greatest count", both(sensor.Thresholded(g, frame, "3")), failed(api.ErrZero))
	want(t, "a level above all counts", both(sensor.Thresholded(g, frame, nines600)), failed(api.ErrZero))
	want(t, "a level above the counts of one", both(sensor.Thresholded(example(), rows(4, 1, 3, 0, 0, 0, 0, 2, 2), "2")), failed(api.ErrZero))
	// Two counts less a level with so many digits have a sum and a difference with too many.
	want(t, "a level with many digits", both(sensor.Thresholded(g, rows(2, 1000, 1, 0, 0), "1/"+nines600)), failed(api.ErrLarge))
	want(t, "a level with many digits below a single count", both(sensor.Thresholded(g, rows(2, 0, 1, 0, 0), "1/"+nines600)), is([][2]api.Rat{{"1/2", "-1/2"}}))
	want(t, "a flux of 0 after a large centroid", both(sensor.Thresholded(example(), rows(4, 1000, 1, 0, 0, 0, 0, 0, 0), "1/"+nines600)), failed(api.ErrZero))
	nines := api.Rat(strings.Repeat("9", 590))
	level := new(big.Rat).Inv(value(nines))
	for range 3 { // around the digits that just fit
		for _, counts := range [][]float32{{1000, 1, 0, 0}, {1, 1000, 0, 0}, {1, 0, 1000, 0}, {0, 0, 1000, 1}, {3, 5, 0, 0}} {
			frame := rows(2, counts...)
			want(t, "digits", both(sensor.Thresholded(g, frame, rat(level))), centroidsOf(g, frame, func(counts table) table { return less(counts, level) }))
		}
		level.Quo(level, integer(1000))
	}
	for _, row := range wrongSizes() {
		want(t, "Thresholded", both(sensor.Thresholded(g, even(g, 0), row.a)), failed(row.e))
	}
}

// correlated returns the best shift behind each lenslet, by its definition.
func correlated(g sensor.Geometry, frame, template [][]float32, most int) [][2]int {
	pattern := exactRows(template)
	var all [][2]int
	for lenslet := range g.Columns * g.Rows {
		counts := behind(g, frame, lenslet)
		var best [2]int
		var greatest *big.Rat
		for b := -most; b <= most; b++ {
			for a := -most; a <= most; a++ {
				sum := new(big.Rat)
				for k := range pattern {
					for i := range pattern {
						if k+b >= 0 && k+b < g.Side && i+a >= 0 && i+a < g.Side {
							sum = plus(sum, times(pattern[k][i], counts[k+b][i+a]))
						}
					}
				}
				if greatest == nil || sum.Cmp(greatest) > 0 {
					best, greatest = [2]int{a, b}, sum
				}
			}
		}
		all = append(all, best)
	}
	return all
}

func TestCorrelated(t *testing.T) {
	random := rand.New(rand.NewSource(12))
	for range 300 {
		g := someGeometry(random)
		frame, template := someFrame(random, g), someFrame(random, single(g.Side))
		if random.Intn(3) == 0 { // few different counts, so that correlations are equal
			frame = frameOf(g, func() float32 { return float32(random.Intn(2)) })
			template = frameOf(single(g.Side), func() float32 { return float32(random.Intn(3) - 1) })
		}
		most := random.Intn(5)
		want(t, "Correlated", both(sensor.Correlated(g, frame, template, most)), is(correlated(g, frame, template, most)))
	}
	g := largest()
	frame, template := someFrame(random, g), someFrame(random, single(8))
	want(t, "Correlated, the largest frame", both(sensor.Correlated(g, frame, template, 4)), is(correlated(g, frame, template, 4)))
}

func TestCorrelatedEdges(t *testing.T) {
	g := single(2)
	one := rows(2, 1, 0, 0, 0)
	for what, row := range map[string]struct {
		frame, template [][]float32
		most            int
		shift           [2]int
	}{
		"all equal":                            {even(g, 0), one, 4, [2]int{-4, -4}},
		"no shift":                             {rows(2, 0, 0, 0, 5), one, 0, [2]int{0, 0}},
		"equal by columns":                     {rows(2, 7, 7, 0, 0), one, 1, [2]int{0, 0}},
		"equal by rows":                        {rows(2, 7, 0, 7, 0), one, 1, [2]int{0, 0}},
		"the least rows, not columns":          {rows(2, 0, 7, 7, 0), one, 1, [2]int{1, 0}},
		"a column and a row":                   {rows(2, 0, 1, 2, 0), one, 1, [2]int{0, 1}},
		"back":                                 {rows(2, 3, 0, 0, 0), rows(2, 0, 0, 0, 1), 1, [2]int{-1, -1}},
		"negative counts, beyond the template": {even(g, -1), even(g, 1), 2, [2]int{-2, -2}},
		"negative counts, within it":           {even(g, -1), even(g, 1), 1, [2]int{-1, -1}},
		"counts that floats would lose":        {rows(2, 16777216, 16777217-1, 0, 0), rows(2, 1, least, 0, 0), 1, [2]int{0, 0}},
		"the greatest counts":                  {rows(2, greatest, greatest, greatest, greatest), even(g, greatest), 4, [2]int{0, 0}},
		"the least counts":                     {rows(2, 0, 0, 0, least), rows(2, least, 0, 0, 0), 4, [2]int{1, 1}},
	} {
		want(t, "Correlated, "+what, both(sensor.Correlated(g, row.frame, row.template, row.most)), is([][2]int{row.shift}))
	}
	want(t, "each lenslet", both(sensor.Correlated(example(), rows(4, 0, 1, 0, 0, 0, 0, 1, 0), one, 1)), is([][2]int{{1, 0}, {0, 1}}))
}

// wrongTemplates are templates for a side of 2.
func wrongTemplates() []wrongFrame {
	return []wrongFrame{
		{nil, api.ErrShape},
		{[][]float32{{nan}}, api.ErrShape},
		{[][]float32{{1, 1}, {1, 1}, {nan, nan}}, api.ErrShape},
		{[][]float32{{nan}, {1, 1}}, api.ErrShape},
		{[][]float32{{nan, 1, 1}, {1, 1}}, api.ErrShape},
		{[][]float32{{1, nan}, {1}}, api.ErrForm},
		{[][]float32{{1, 1}, {infinity, 1}}, api.ErrForm},
		{[][]float32{{-infinity, 1}, {1, 1}}, api.ErrForm},
		{[][]float32{{1, 1}, nil}, api.ErrShape},
		{[][]float32{{1, 1}, {1, 1, nan}}, api.ErrShape},
	}
}

func TestCentroidErrors(t *testing.T) {
	for _, row := range wrongFrames() {
		want(t, "Flux", both(sensor.Flux(example(), row.frame)), fails[[]api.Rat](row.e))
		want(t, "Centroids", both(sensor.Centroids(example(), row.frame)), fails[[][2]api.Rat](row.e))
		want(t, "Thresholded", both(sensor.Thresholded(example(), row.frame, "x")), fails[[][2]api.Rat](row.e))
		want(t, "Correlated", both(sensor.Correlated(example(), row.frame, nil, -1)), fails[[][2]int](row.e))
	}
	for _, g := range wrongGeometries() {
		want(t, "Flux", both(sensor.Flux(g, anyWrong())), fails[[]api.Rat](api.ErrRange))
		want(t, "Centroids", both(sensor.Centroids(g, anyWrong())), fails[[][2]api.Rat](api.ErrRange))
		want(t, "Thresholded", both(sensor.Thresholded(g, anyWrong(), "x")), fails[[][2]api.Rat](api.ErrRange))
		want(t, "Correlated", both(sensor.Correlated(g, anyWrong(), anyWrong(), 0)), fails[[][2]int](api.ErrRange))
	}
	for _, row := range wrongTemplates() {
		want(t, "Correlated", both(sensor.Correlated(example(), even(example(), 1), row.frame, -1)), fails[[][2]int](row.e))
	}
	for _, most := range []int{-1, 5, -far - 1, far} {
		want(t, "Correlated", both(sensor.Correlated(single(2), even(single(2), 1), even(single(2), 1), most)), fails[[][2]int](api.ErrRange))
	}
}
