package pupil_test

import (
	"math/big"
	"math/rand"
	"testing"

	"lenslet/api"
	"lenslet/pupil"
)

// P2.5

// mean returns the mean of numbers.
func mean(list []*big.Rat) *big.Rat {
	sum := new(big.Rat)
	for _, x := range list {
		sum.Add(sum, x)
	}
	return over(sum, integer(len(list)))
}

// flattened are the results of Flattened.
type flattened = two[[]api.Rat, api.Rat]

func TestFlattenedAndVariance(t *testing.T) {
	random := rand.New(rand.NewSource(41))
	for range 500 {
		phase := smalls(random, 1+random.Intn(20))
		piston := mean(phase)
		var rest, squares []*big.Rat
		for _, x := range phase {
			difference := minus(x, piston)
			rest = append(rest, difference)
			squares = append(squares, times(difference, difference))
		}
		want(t, "Flattened", all(pupil.Flattened(rats(phase))), flattened{rats(rest), rat(piston), api.OK})
		want(t, "Variance", both(pupil.Variance(rats(phase))), is(rat(mean(squares))))
	}
}

func TestPhasesOfExamples(t *testing.T) {
	for _, row := range []struct {
		phase    []api.Rat
		flat     flattened
		variance result[api.Rat]
	}{
		{[]api.Rat{"1", "2", "6"}, flattened{[]api.Rat{"-2", "-1", "3"}, "3", api.OK}, is(api.Rat("14/3"))},
		{[]api.Rat{"-5/3"}, flattened{[]api.Rat{"0"}, "-5/3", api.OK}, is(api.Rat("0"))},
		{repeated("1/7", 256), flattened{repeated("0", 256), "1/7", api.OK}, is(api.Rat("0"))},
		{[]api.Rat{nines600, nines600}, flattened{[]api.Rat{"0", "0"}, nines600, api.OK}, is(api.Rat("0"))},
		{[]api.Rat{nines600, "0"}, flattened{[]api.Rat{half(1), half(-1)}, half(1), api.OK}, fails[api.Rat](api.ErrLarge)},
		{[]api.Rat{nines600, "-" + nines600, "3"}, flattened{Error: api.ErrLarge}, fails[api.Rat](api.ErrLarge)},
		{[]api.Rat{"1/" + nines600, "0"}, flattened{Error: api.ErrLarge}, fails[api.Rat](api.ErrLarge)},
		{nil, flattened{Error: api.ErrEmpty}, fails[api.Rat](api.ErrEmpty)},
		{[]api.Rat{}, flattened{Error: api.ErrEmpty}, fails[api.Rat](api.ErrEmpty)},
	} {
		want(t, "Flattened", all(pupil.Flattened(row.phase)), row.flat)
		want(t, "Variance", both(pupil.Variance(row.phase)), row.variance)
	}
	for _, row := range wrongVectors() {
		want(t, "Flattened", all(pupil.Flattened(row.v)), flattened{Error: row.e})
		want(t, "Variance", both(pupil.Variance(row.v)), fails[api.Rat](row.e))
	}
}

// half returns a half of the number with 600 digits 9, with a sign.
func half(sign int64) api.Rat { return rat(times(value(nines600), big.NewRat(sign, 2))) }

// A variance within the limits of numbers whose piston is not: the distances are small.
func TestVarianceOfLargeNumbers(t *testing.T) {
	next := rat(minus(value(nines600), integer(1)))
	want(t, "Variance", both(pupil.Variance([]api.Rat{nines600, next})), is(api.Rat("1/4")))
}

// slopes returns the slopes over a square, by the definition, or false if it has no cell of the pupil.
func slopes(p pupil.Pupil, f pupil.Poly, corner [2]int, side int) ([]*big.Rat, bool) {
	var byX, byY []*big.Rat
	for _, c := range cells(p) {
		if c[0] < corner[0] || c[0] >= corner[0]+side || c[1] < corner[1] || c[1] >= corner[1]+side {
			continue
		}
		x, y := centre(c[0], p.Size), centre(c[1], p.Size)
		sumX, sumY := new(big.Rat), new(big.Rat)
		for _, t := range f {
			if t.I > 0 {
				sumX.Add(sumX, times(times(value(t.C), integer(t.I)), times(power(x, t.I-1), power(y, t.J))))
			}
			if t.J > 0 {
				sumY.Add(sumY, times(times(value(t.C), integer(t.J)), times(power(x, t.I), power(y, t.J-1))))
			}
		}
		byX, byY = append(byX, sumX), append(byY, sumY)
	}
	if len(byX) == 0 {
		return nil, false
	}
	return []*big.Rat{mean(byX), mean(byY)}, true
}

func TestSlopes(t *testing.T) {
	random := rand.New(rand.NewSource(42))
	for range 600 {
		p, f := somePupil(random), someTerms(random)
		side := 1 + random.Intn(p.Size)
		corner := [2]int{random.Intn(p.Size - side + 1), random.Intn(p.Size - side + 1)}
		wanted := fails[[2]api.Rat](api.ErrNone)
		if list, some := slopes(p, f, corner, side); some {
			r := limited(list)
			wanted = fails[[2]api.Rat](r.Error)
			if r.Error == api.OK {
				wanted = is([2]api.Rat{r.Value[0], r.Value[1]})
			}
		}
		want(t, "Slopes", both(pupil.Slopes(p, f, corner, side)), wanted)
	}
}

func TestSlopesOfExamples(t *testing.T) {
	const far = 1<<63 - 1
	failed := func(e api.Errno) result[[2]api.Rat] { return fails[[2]api.Rat](e) }
	square := pupil.Poly{{"1", 2, 0}}
	for what, row := range map[string]struct {
		p      pupil.Pupil
		f      pupil.Poly
		corner [2]int
		side   int
		r      result[[2]api.Rat]
	}{
		"X^2":                              {example(), square, [2]int{2, 0}, 2, is([2]api.Rat{"1", "0"})},
		"0":                                {example(), nil, [2]int{0, 0}, 4, is([2]api.Rat{"0", "0"})},
		"a cell":                           {example(), square, [2]int{3, 2}, 1, is([2]api.Rat{"3/2", "0"})},
		"column and row":                   {full(4), pupil.Poly{{"1", 2, 0}, {"1", 0, 2}}, [2]int{3, 0}, 1, is([2]api.Rat{"3/2", "-3/2"})},
		"the whole grid":                   {full(16), pupil.Poly{{"5", 1, 0}, {"7", 0, 1}, {"1", 0, 2}}, [2]int{0, 0}, 16, is([2]api.Rat{"5", "7"})},
		"a square without a cell":          {example(), square, [2]int{1, 1}, 2, failed(api.ErrNone)},
		"a corner without a cell":          {example(), pupil.Poly{{nines600, 2, 0}}, [2]int{0, 0}, 1, failed(api.ErrNone)},
		"a pupil without a cell":           {none(), square, [2]int{0, 0}, 4, failed(api.ErrNone)},
		"a large slope":                    {full(4), pupil.Poly{{nines600, 3, 0}}, [2]int{3, 0}, 1, failed(api.ErrLarge)},
		"a large slope by Y":               {full(4), pupil.Poly{{nines600, 0, 3}}, [2]int{0, 0}, 1, failed(api.ErrLarge)},
		"large on the way":                 {full(4), pupil.Poly{{nines600, 2, 0}}, [2]int{0, 0}, 4, is([2]api.Rat{"0", "0"})},
		"a column below 0":                 {none(), square, [2]int{-1, 0}, 1, failed(api.ErrRange)},
		"a row below 0":                    {none(), square, [2]int{0, -1}, 1, failed(api.ErrRange)},
		"a column at the size":             {none(), square, [2]int{4, 0}, 1, failed(api.ErrRange)},
		"a row at the size":                {none(), square, [2]int{0, 4}, 1, failed(api.ErrRange)},
		"a side of 0":                      {none(), square, [2]int{0, 0}, 0, failed(api.ErrRange)},
		"a side below 0":                   {none(), square, [2]int{0, 0}, -far - 1, failed(api.ErrRange)},
		"a side beyond the size":           {none(), square, [2]int{0, 0}, 5, failed(api.ErrRange)},
		"a square beyond the last column":  {none(), square, [2]int{2, 0}, 3, failed(api.ErrRange)},
		"a square beyond the last row":     {none(), square, [2]int{0, 3}, 2, failed(api.ErrRange)},
		"a square at the end":              {full(4), square, [2]int{3, 3}, 1, is([2]api.Rat{"3/2", "0"})},
		"a side that is too large":         {none(), square, [2]int{1, 1}, far, failed(api.ErrRange)},
		"a corner that is too far":         {none(), square, [2]int{far, far}, 1, failed(api.ErrRange)},
		"a corner that is too far below 0": {none(), square, [2]int{-far - 1, -far - 1}, far, failed(api.ErrRange)},
	} {
		want(t, "Slopes of "+what, both(pupil.Slopes(row.p, row.f, row.corner, row.side)), row.r)
	}
	for _, row := range wrongPupils() {
		want(t, "Slopes", both(pupil.Slopes(row.p, pupil.Poly{{}}, [2]int{-1, -1}, 0)), failed(row.e))
	}
	for _, row := range wrongPolys() {
		want(t, "Slopes", both(pupil.Slopes(none(), row.f, [2]int{-1, -1}, 0)), failed(row.e))
	}
}
