package sensor

import (
	"slices"

	"lenslet/api"
	"lenslet/check"
	"lenslet/exact"
	"lenslet/grid"
	"lenslet/sample"
	"lenslet/total"
	"lenslet/whole"
)

// flux returns the sum of the counts.
func (c counts) flux() whole.Int { return total.Of(slices.Concat(c...), whole.Int.Add) }

// Flux returns the sum of the counts behind each lenslet.
func Flux(g Geometry, frame [][]float32) ([]api.Rat, api.Errno) {
	parts, e := readSubapertures(g, frame)
	if e != api.OK {
		return nil, e
	}
	return check.Each(parts, func(part counts) (api.Rat, api.Errno) { return sample.Number(part.flux()).Rat() })
}

// sums returns the sums of the counts of each column, and of each row, of a subaperture.
func (c counts) sums() [2][]whole.Int {
	side := len(c)
	columns, rows := make([]whole.Int, side), make([]whole.Int, side)
	for p := range grid.Cells(side, side) {
		columns[p.Column] = columns[p.Column].Add(c.at(p))
		rows[p.Row] = rows[p.Row].Add(c.at(p))
	}
	return [2][]whole.Int{columns, rows}
}

// middle returns the mean coordinate of columns with these sums of counts, or of rows. The unit of
// the counts makes no difference.
func middle(sums []whole.Int) exact.Number {
	halves := make([]whole.Int, len(sums)) // twice the coordinates, which are halves, times the counts
	for i, count := range sums {
		halves[i] = count.Mul(whole.Of(2*i + 1 - len(sums)))
	}
	flux := total.Of(sums, whole.Int.Add)
	return exact.New(total.Of(halves, whole.Int.Add), flux.Mul(whole.Of(2)))
}

// centroid returns the centroid of a subaperture, or ErrLarge.
func centroid(part counts) ([2]api.Rat, api.Errno) {
	sums := part.sums()
	byColumns, wrongColumns := middle(sums[0]).Rat()
	byRows, wrongRows := middle(sums[1]).Rat()
	return [2]api.Rat{byColumns, byRows}, check.First(wrongColumns, wrongRows)
}

// centroids returns the centroid of each subaperture, or ErrZero if there are no counts in one.
func centroids(parts []counts) ([][2]api.Rat, api.Errno) {
	for _, part := range parts {
		if part.flux().Sign() <= 0 {
			return nil, api.ErrZero
		}
	}
	return check.Each(parts, centroid)
}

// Centroids returns the centroid behind each lenslet.
func Centroids(g Geometry, frame [][]float32) ([][2]api.Rat, api.Errno) {
	parts, e := readSubapertures(g, frame)
	if e != api.OK {
		return nil, e
	}
	return centroids(parts)
}

// plus returns the counts plus a number, in a unit in which they are integers, where 0 replaces
// those below 0. Numbers with the same denominator make the same unit.
func (c counts) plus(a exact.Number) counts {
	summand := a.Above().Shifted(sample.UnitBits)
	return c.changed(func(count whole.Int) whole.Int {
		sum := count.Mul(a.Below()).Add(summand)
		if sum.Sign() < 0 {
			return whole.Int{}
		}
		return sum
	})
}

// Thresholded returns the centroids of the counts above a level.
func Thresholded(g Geometry, frame [][]float32, level api.Rat) ([][2]api.Rat, api.Errno) {
	parts, wrongFrame := readSubapertures(g, frame)
	size, wrongLevel := exact.ParseUnsigned(level)
	if e := check.First(wrongFrame, wrongLevel); e != api.OK {
		return nil, e
	}
	for k, part := range parts {
		parts[k] = part.plus(size.Neg())
	}
	return centroids(parts)
}

// middles returns the mean coordinates for each index before which the sums are those of one list,
// and from which on they are those of another one.
func middles(before, after []whole.Int) []exact.Number {
	list := []exact.Number{middle(before)}
	for i := range before {
		list = append(list, middle(slices.Concat(before[:i], after[i:])))
	}
	return list
}

// middleSpan returns the span of the mean coordinate for sums that lie between two lists.
func middleSpan(least, greatest []whole.Int) (api.Span, api.Errno) {
	low, wrongLow := slices.MinFunc(middles(greatest, least), exact.Number.Compare).Rat()
	high, wrongHigh := slices.MaxFunc(middles(least, greatest), exact.Number.Compare).Rat()
	return api.Span{Low: low, High: high}, check.First(wrongLow, wrongHigh)
}

// hasNegative reports whether a count is below 0.
func (c counts) hasNegative() bool {
	return slices.ContainsFunc(slices.Concat(c...), func(count whole.Int) bool { return count.Sign() < 0 })
}

// Uncertain returns the spans of the centroid behind a lenslet, if counts have an error.
func Uncertain(g Geometry, frame [][]float32, lenslet int, e api.Rat) ([2]api.Span, api.Errno) {
	parts, wrongFrame := readSubapertures(g, frame)
	size, wrongError := exact.ParseUnsigned(e)
	wrong := check.First(wrongFrame, check.Range(lenslet, 0, len(parts)-1), wrongError)
	if wrong != api.OK {
		return [2]api.Span{}, wrong
	}
	part := parts[lenslet]
	least, greatest := part.plus(size.Neg()), part.plus(size)
	wrong = check.First(
		check.If(part.hasNegative(), api.ErrRange),
		check.If(least.flux().Sign() == 0, api.ErrZero),
	)
	if wrong != api.OK {
		return [2]api.Span{}, wrong
	}
	lows, highs := least.sums(), greatest.sums()
	byColumns, wrongColumns := middleSpan(lows[0], highs[0])
	byRows, wrongRows := middleSpan(lows[1], highs[1])
	if wrong = check.First(wrongColumns, wrongRows); wrong != api.OK {
		return [2]api.Span{}, wrong
	}
	return [2]api.Span{byColumns, byRows}, api.OK
}
