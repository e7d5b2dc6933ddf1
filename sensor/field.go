package sensor

import (
	"slices"

	"lenslet/api"
	"lenslet/check"
	"lenslet/exact"
	"lenslet/grid"
	"lenslet/number"
	"lenslet/sample"
	"lenslet/total"
	"lenslet/whole"
)

// checkSide returns ErrRange if a number of rows is none of those allowed, or OK.
func checkSide(n int, allowed ...int) api.Errno {
	return check.If(!slices.Contains(allowed, n), api.ErrRange)
}

// quarter returns the complex number at so many quarter turns.
func quarter(turns int) complex64 {
	return [...]complex64{1, 1i, -1, -1i}[turns&3]
}

// Field returns the field of phases in quarter turns.
func Field(phases [][]int) ([][]complex64, api.Errno) {
	if e := checkSide(len(phases), 2, 4, MaxField); e != api.OK {
		return nil, e
	}
	return check.Rows(phases, len(phases), func(phase int) (complex64, api.Errno) { return quarter(phase), api.OK })
}

// value is a complex number whose parts are in units of the least float.
type value struct {
	re, im whole.Int
}

// readValue returns a complex number, or ErrForm if a part of it is a NaN or an infinity.
func readValue(c complex64) (value, api.Errno) {
	re, wrongRe := sample.Units(real(c))
	im, wrongIm := sample.Units(imag(c))
	return value{re, im}, check.First(wrongRe, wrongIm)
}

// readField returns the values of a field, or its first error.
func readField(field [][]complex64) ([][]value, api.Errno) {
	if e := checkSide(len(field), 2, 4, MaxField); e != api.OK {
		return nil, e
	}
	return check.Rows(field, len(field), readValue)
}

// span is all numbers between two integers.
type span struct {
	low, high whole.Int
}

// plus returns the sum of two spans.
func (s span) plus(other span) span { return span{s.low.Add(other.low), s.high.Add(other.high)} }

// times returns a span times a factor.
func (s span) times(factor whole.Int) span {
	if factor.Sign() < 0 {
		s.low, s.high = s.high, s.low
	}
	return span{s.low.Mul(factor), s.high.Mul(factor)}
}

// decimals is the number of decimals of cosines and sines.
const decimals = 9

// grain returns how many units of a span of cosines are 1.
func grain() whole.Int { return whole.Power(10, decimals) }

// readSpan returns a span with decimals as integers.
func readSpan(s api.Span) span {
	low, _ := exact.Parse(s.Low)
	high, _ := exact.Parse(s.High)
	units := exact.Whole(grain())
	return span{low.Mul(units).Floor(), high.Mul(units).Floor()}
}

// bounds are the spans of the parts of a complex number.
type bounds struct {
	re, im span
}

// waves returns the cosines (as real parts) and sines (as imaginary parts) of the multiples of the
// n-th part of a turn.
func waves(n int) ([]bounds, api.Errno) {
	multiples := make([]int, n)
	for k := range multiples {
		multiples[k] = k
	}
	return check.Each(multiples, func(k int) (bounds, api.Errno) {
		turn, wrongTurn := number.Of(k, n)
		box, wrongBox := number.Turn(turn, decimals)
		return bounds{readSpan(box.Re), readSpan(box.Im)}, check.First(wrongTurn, wrongBox)
	})
}

// transformed returns bounds of the transform of a field, in units of the least float times the
// grain. For 2 and 4 rows they are single numbers, as the cosines and sines are.
func transformed(field [][]value) ([][]bounds, api.Errno) {
	n := len(field)
	factors, e := waves(n)
	if e != api.OK {
		return nil, e
	}
	all := make([][]bounds, n)
	for at := range grid.Cells(n, n) {
		var re, im []span
		for p := range grid.Cells(n, n) {
			u, factor := field[p.Row][p.Column], factors[(p.Row*at.Row+p.Column*at.Column)%n]
			re = append(re, factor.re.times(u.re), factor.im.times(u.im))
			im = append(im, factor.re.times(u.im), factor.im.times(u.re.Neg()))
		}
		all[at.Row] = append(all[at.Row], bounds{total.Of(re, span.plus), total.Of(im, span.plus)})
	}
	return all, api.OK
}

// nearest returns the complex number with the nearest floats to the lower ends of bounds.
func (b bounds) nearest() (complex64, api.Errno) {
	part := func(s span) (float32, api.Errno) {
		return sample.Nearest(sample.Number(s.low).Quo(exact.Whole(grain())))
	}
	re, wrongRe := part(b.re)
	im, wrongIm := part(b.im)
	return complex(re, im), check.First(wrongRe, wrongIm)
}

// absolute returns the sum of the absolute values of all parts of a field.
func absolute(field [][]value) whole.Int {
	var parts []whole.Int
	for _, row := range field {
		for _, u := range row {
			parts = append(parts, u.re.Abs(), u.im.Abs())
		}
	}
	return total.Of(parts, whole.Int.Add)
}

// endBits is the power of 2 at which the sum of the parts of the largest fields ends.
const endBits = 120

// checkSum returns ErrLarge if the sum of the parts of one of the largest fields is too large, or OK.
func checkSum(field [][]value) api.Errno {
	end := whole.Of(1).Shifted(endBits + sample.UnitBits)
	return check.If(len(field) == MaxField && absolute(field).Compare(end) >= 0, api.ErrLarge)
}

// Transform returns the finite transform of a field.
func Transform(field [][]complex64) ([][]complex64, api.Errno) {
	values, e := readField(field)
	if e = check.First(e, checkSum(values)); e != api.OK {
		return nil, e
	}
	all, e := transformed(values)
	if e != api.OK {
		return nil, e
	}
	return check.Rows(all, len(all), bounds.nearest)
}

// toleranceBits is the number of halvings that make the tolerance of the sum of all parts.
const toleranceBits = 20

// near reports whether a number of units of the least float differs from each number of a span by
// at most the tolerance of a field with a sum of parts. What it compares has been multiplied by the
// grain and doubled so often that it consists of integers.
func (s span) near(units, sum whole.Int) bool {
	tolerance := sum.Add(whole.Of(1).Shifted(toleranceBits)).Mul(grain())
	place := units.Mul(grain())
	for _, distance := range [...]whole.Int{place.Sub(s.low), s.high.Sub(place)} {
		if distance.Shifted(toleranceBits).Compare(tolerance) > 0 {
			return false
		}
	}
	return true
}

// checkAccepted returns ErrProof if a transform is not accepted for a field, or OK.
func checkAccepted(field, transform [][]value) api.Errno {
	all, e := transformed(field)
	sum := absolute(field)
	for row, list := range all {
		for column, b := range list {
			v := transform[row][column]
			if !b.re.near(v.re, sum) || !b.im.near(v.im, sum) {
				return api.ErrProof
			}
		}
	}
	return e
}

// checkEqual returns the error of Transform for a field, or ErrProof if a transform is another one.
func checkEqual(field, transform [][]complex64) api.Errno {
	right, e := Transform(field)
	if e != api.OK {
		return e
	}
	return check.If(!slices.EqualFunc(right, transform, slices.Equal), api.ErrProof)
}

// CheckTransform returns OK for the transform of a field.
func CheckTransform(field, transform [][]complex64) api.Errno {
	values, e := readField(field)
	if e = check.First(e, check.If(len(transform) != len(field), api.ErrShape)); e != api.OK {
		return e
	}
	found, e := check.Rows(transform, len(field), readValue)
	if e = check.First(e, checkSum(values)); e != api.OK {
		return e
	}
	if len(field) < MaxField {
		return checkEqual(field, transform)
	}
	return checkAccepted(values, found)
}
