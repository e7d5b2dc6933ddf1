package sensor_test

import (
	"math"
	"math/big"
	"math/rand"
	"testing"

	"lenslet/api"
	"lenslet/number"
	"lenslet/sensor"
)

// P3.5

func TestPyramidExamples(t *testing.T) {
	field := [][]complex64{{1, 1i}, {-1, -1i}}
	transform := [][]complex64{{0, 0}, {2 + 2i, 2 - 2i}}
	want(t, "Field", both(sensor.Field([][]int{{0, 1}, {2, 3}})), is(field))
	want(t, "Transform", both(sensor.Transform(field)), is(transform))
	want(t, "CheckTransform", sensor.CheckTransform(field, transform), api.OK)
	ones, none := [][]api.Rat{{"1", "1"}, {"1", "1"}}, [][]api.Rat{{"0", "0"}, {"0", "0"}}
	images := [4][][]api.Rat{ones, none, none, none}
	want(t, "Images", both(sensor.Images([][]int{{0, 0}, {0, 0}})), is(images))
	pair := [2]api.Rat{"1", "1"}
	want(t, "Signals", both(sensor.Signals(images)), is([][][2]api.Rat{{pair, pair}, {pair, pair}}))
}

// square returns a square of elements that a function returns.
func square[T any](n int, element func(row, column int) T) [][]T {
	var all [][]T
	for row := range n {
		var list []T
		for column := range n {
			list = append(list, element(row, column))
		}
		all = append(all, list)
	}
	return all
}

// noMinus0 reports parts that are -0.
func noMinus0(t *testing.T, what string, field [][]complex64) {
	t.Helper()
	for _, row := range field {
		for _, c := range row {
			for _, part := range []float32{real(c), imag(c)} {
				if part == 0 && math.Signbit(float64(part)) {
					t.Errorf("%s: a part is -0", what)
				}
			}
		}
	}
}

// turned returns the complex number at so many quarter turns.
func turned(quarters int) complex64 {
	return map[int]complex64{0: 1, 1: 1i, 2: -1, 3: -1i}[((quarters%4)+4)%4]
}

// somePhase returns a phase in quarter turns, of any size.
func somePhase(random *rand.Rand) int {
	if random.Intn(2) == 0 {
		return random.Intn(21) - 10
	}
	return []int{far, -far - 1, far - 1, far - 2, -far, 1 - far, int(random.Uint64())}[random.Intn(7)]
}

func TestField(t *testing.T) {
	random := rand.New(rand.NewSource(41))
	for _, n := range []int{2, 4, 8} {
		for range 100 {
			phases := square(n, func(int, int) int { return somePhase(random) })
			field := both(sensor.Field(phases))
			want(t, "Field", field, is(square(n, func(row, column int) complex64 { return turned(phases[row][column]) })))
			noMinus0(t, "Field", field.Value)
		}
	}
}

// exactValue is a complex number with exact parts.
type exactValue struct {
	re, im *big.Rat
}

// isExactly returns a complex number with exact parts.
func isExactly(c complex64) exactValue { return exactValue{exactly(real(c)), exactly(imag(c))} }

func (a exactValue) plus(b exactValue) exactValue {
	return exactValue{plus(a.re, b.re), plus(a.im, b.im)}
}
func (a exactValue) times(b exactValue) exactValue {
	return exactValue{minus(times(a.re, b.re), times(a.im, b.im)), plus(times(a.re, b.im), times(a.im, b.re))}
}

// transformed returns the exact transform of a field of 2 or 4 rows.
func transformed(field [][]complex64) [][]exactValue {
	n := len(field)
	return square(n, func(k, l int) exactValue {
		sum := isExactly(0)
		for a := range n {
			for b := range n {
				sum = sum.plus(isExactly(field[a][b]).times(isExactly(turned(-(a*k + b*l) * 4 / n))))
			}
		}
		return sum
	})
}

// transform returns the transform of a field of 2 or 4 rows, or ErrLarge.
func transform(field [][]complex64) result[[][]complex64] {
	large := false
	parts := transformed(field)
	all := square(len(field), func(k, l int) complex64 {
		re, fitsRe := nearest(parts[k][l].re)
		im, fitsIm := nearest(parts[k][l].im)
		large = large || !fitsRe || !fitsIm
		return complex(re, im)
	})
	if large {
		return fails[[][]complex64](api.ErrLarge)
	}
	return is(all)
}

// someField returns a field with some values.
func someField(random *rand.Rand, n int) [][]complex64 {
	kind := random.Intn(4)
	part := func() float32 {
		switch kind {
		case 0:
			return float32(random.Intn(7) - 3)
		case 1:
			return float32(random.NormFloat64())
		case 2:
			return math.Float32frombits(random.Uint32() & 0x800000ff) // a few of the least floats
		}
		return someCount(random)
	}
	return square(n, func(int, int) complex64 { return complex(part(), part()) })
}

func TestTransform(t *testing.T) {
	random := rand.New(rand.NewSource(42))
	for _, n := range []int{2, 4} {
		for range 200 {
			field := someField(random, n)
			wanted := transform(field)
			got := both(sensor.Transform(field))
			want(t, "Transform", got, wanted)
			noMinus0(t, "Transform", got.Value)
			want(t, "CheckTransform", sensor.CheckTransform(field, wanted.Value), api.OK)
			k, l := random.Intn(n), random.Intn(n)
			right := wanted.Value[k][l]
			wanted.Value[k][l] = complex(math.Nextafter32(real(right), infinity), imag(right))
			want(t, "CheckTransform of another real part", sensor.CheckTransform(field, wanted.Value), api.ErrProof)
			wanted.Value[k][l] = complex(real(right), math.Nextafter32(imag(right), -infinity))
			want(t, "CheckTransform of another imaginary part", sensor.CheckTransform(field, wanted.Value), api.ErrProof)
		}
	}
}

func TestTransformAtTheLimit(t *testing.T) {
	zeros := func(n int) [][]complex64 { return square(n, func(int, int) complex64 { return 0 }) }
	const half = 1 << 103 // half of the distance of the greatest floats
	failed := fails[[][]complex64](api.ErrLarge)
	for _, n := range []int{2, 4} {
		for what, row := range map[string]struct {
			first, last complex64
			large       bool
		}{
			"the greatest floats":                  {greatest, greatest, true},
			"the greatest imaginary parts":         {greatest * 1i, greatest * 1i, true},
			"just too large":                       {greatest, half, true},
			"just too large by imaginary parts":    {-greatest * 1i, -half * 1i, true},
			"just not too large":                   {greatest, half - 1<<79, false},
			"just not too large, negative":         {-greatest, 1<<79 - half, false},
			"too large where the signs differ":     {greatest, -greatest, true},
			"the greatest float, and the least":    {complex(greatest, least), complex(least, -least), false},
			"just not too large, imaginary number": {greatest * 1i, (half - 1<<79) * 1i, false},
		} {
			field := zeros(n)
			field[0][0], field[n-1][n-1] = row.first, row.last
			wanted := transform(field)
			want(t, "a field of "+what, wanted.Error == api.ErrLarge, row.large)
			want(t, "Transform of "+what, both(sensor.Transform(field)), wanted)
			if row.large {
				want(t, "CheckTransform of "+what, sensor.CheckTransform(field, zeros(n)), api.ErrLarge)
			} else {
				want(t, "CheckTransform of "+what, sensor.CheckTransform(field, wanted.Value), api.OK)
			}
		}
	}
	field := zeros(8)
	for what, row := range map[string]struct {
		first, last complex64
		large       bool
	}{
		"2^120":                        {1 << 120, 0, true},
		"-2^120":                       {0, -1 << 120, true},
		"2^120 in two parts":           {1<<119 + 1<<119*1i, 0, true},
		"2^120 with different signs":   {1 << 119, -1 << 119 * 1i, true},
		"the greatest float":           {greatest * 1i, 0, true},
		"just below 2^120":             {1<<120 - 1<<96, 0, false},
		"just below 2^120 in parts":    {1 << 119, -(1<<119 - 1<<95) * 1i, false},
		"2^120 by the least part":      {1<<120 - 1<<96, 1 << 96, true},
		"just below by the least part": {1<<120 - 1<<96, 1<<96 - 1<<72, false},
	} {
		field[0][0], field[7][7] = row.first, row.last
		got := both(sensor.Transform(field))
		if row.large {
			want(t, "Transform of "+what, got, failed)
			want(t, "CheckTransform of "+what, sensor.CheckTransform(field, zeros(8)), api.ErrLarge)
		} else {
			want(t, "Transform of "+what, got.Error, api.OK)
			want(t, "CheckTransform of "+what, sensor.CheckTransform(field, got.Value), api.OK)
			want(t, "CheckTransform of "+what, sensor.CheckTransform(field, zeros(8)), api.ErrProof)
		}
	}
}

// ends are the ends of the span of a part.
type ends struct {
	low, high *big.Rat
}

// spanOf returns a span times a factor.
func spanOf(s api.Span, factor *big.Rat) ends {
	low, high := times(value(s.Low), factor), times(value(s.High), factor)
	if low.Cmp(high) > 0 {
		low, high = high, low
	}
	return ends{low, high}
}

// waves returns the spans of the cosines and the sines of the multiples of 1/8 of a turn.
func waves() [64 * 2][2]api.Span {
	var all [64 * 2][2]api.Span
	for k := range all {
		turn := rat(big.NewRat(int64(k), 8))
		all[k][0], _ = number.Cos(turn, 9)
		all[k][1], _ = number.Sin(turn, 9)
	}
	return all
}

// spansOf returns the spans of the real and the imaginary part of a transform at k, l, with the
// spans of waves.
func spansOf(factors [64 * 2][2]api.Span, field [][]complex64, k, l int) [2]ends {
	var all [2]ends
	for part := range all {
		all[part] = ends{new(big.Rat), new(big.Rat)}
	}
	for a, row := range field {
		for b, c := range row {
			cosine, sine := factors[a*k+b*l][0], factors[a*k+b*l][1]
			u := isExactly(c)
			for part, terms := range [2][2]ends{{spanOf(cosine, u.re), spanOf(sine, u.im)}, {spanOf(cosine, u.im), spanOf(sine, minus(new(big.Rat), u.re))}} {
				for _, term := range terms {
					all[part] = ends{plus(all[part].low, term.low), plus(all[part].high, term.high)}
				}
			}
		}
	}
	return all
}

// toleranceOf returns the tolerance of a field.
func toleranceOf(field [][]complex64) *big.Rat {
	sum := new(big.Rat)
	for _, row := range field {
		for _, c := range row {
			u := isExactly(c)
			sum = plus(sum, plus(new(big.Rat).Abs(u.re), new(big.Rat).Abs(u.im)))
		}
	}
	return plus(over(sum, power2(20)), power2(-149))
}

// accepted reports whether a float may be a part of the transform.
func accepted(f float32, part ends, tolerance *big.Rat) bool {
	x := exactly(f)
	return new(big.Rat).Abs(minus(x, part.low)).Cmp(tolerance) <= 0 && new(big.Rat).Abs(minus(x, part.high)).Cmp(tolerance) <= 0
}

// limits returns the least and the greatest float that may be a part of the transform.
func limits(part ends, tolerance *big.Rat) [2]float32 {
	low, _ := minus(part.high, tolerance).Float32()
	high, _ := plus(part.low, tolerance).Float32()
	if !accepted(low, part, tolerance) {
		low = math.Nextafter32(low, infinity)
	}
	if !accepted(high, part, tolerance) {
		high = math.Nextafter32(high, -infinity)
	}
	return [2]float32{low, high}
}

// TestTransformOf8Rows has parts at the tolerance: the last floats that are accepted, and the next ones.
func TestTransformOf8Rows(t *testing.T) {
	random := rand.New(rand.NewSource(43))
	factors := waves()
	for range 20 {
		field := someField(random, 8)
		found := both(sensor.Transform(field))
		want(t, "Transform", found.Error, api.OK)
		noMinus0(t, "Transform", found.Value)
		want(t, "CheckTransform", sensor.CheckTransform(field, found.Value), api.OK)
		tolerance := toleranceOf(field)
		for range 4 {
			k, l := random.Intn(8), random.Intn(8)
			parts := spansOf(factors, field, k, l)
			right := found.Value[k][l]
			want(t, "a part of the transform", accepted(real(right), parts[0], tolerance) && accepted(imag(right), parts[1], tolerance), true)
			re, im := limits(parts[0], tolerance), limits(parts[1], tolerance)
			for side, beyond := range [2]float32{-infinity, infinity} {
				found.Value[k][l] = complex(re[side], im[side])
				want(t, "CheckTransform at the tolerance", sensor.CheckTransform(field, found.Value), api.OK)
				found.Value[k][l] = complex(math.Nextafter32(re[side], beyond), imag(right))
				want(t, "CheckTransform of a real part beyond the tolerance", sensor.CheckTransform(field, found.Value), api.ErrProof)
				found.Value[k][l] = complex(real(right), math.Nextafter32(im[side], beyond))
				want(t, "CheckTransform of an imaginary part beyond the tolerance", sensor.CheckTransform(field, found.Value), api.ErrProof)
			}
			found.Value[k][l] = right
		}
	}
}

// TestTolerance has fields whose tolerance is known.
func TestTolerance(t *testing.T) {
	zeros := square(8, func(int, int) complex64 { return 0 })
	field := square(8, func(int, int) complex64 { return 0 })
	filled := func(c complex64) [][]complex64 { return square(8, func(int, int) complex64 { return c }) }
	for _, row := range []struct {
		first, part complex64
		e           api.Errno
	}{
		{0, 0, api.OK}, {0, least, api.OK}, {0, -least * 1i, api.OK}, {0, 2 * least, api.ErrProof}, {0, -2 * least * 1i, api.ErrProof},
		{1 << 20, 1<<20 + 1, api.OK}, {1 << 20, 1<<20 - 1, api.OK}, {1 << 20, 1<<20 + 1.125, api.ErrProof}, {1 << 20, 1<<20 - 1.0625, api.ErrProof},
		{1 << 20, 1<<20 + 1i, api.OK}, {1 << 20, 1<<20 - 1.0000001i, api.ErrProof}, {1 << 20, 1<<20 - 1i, api.OK},
		{1 << 20 * 1i, 1<<20*1i + 1, api.OK}, {1 << 20 * 1i, 1<<20*1i + 1.0000001, api.ErrProof}, {1 << 20 * 1i, (1<<20 + 1) * 1i, api.OK}, {1 << 20 * 1i, (1<<20 + 1.125) * 1i, api.ErrProof},
		{1<<20 + 1<<20*1i, 1<<20 - 2 + (1<<20+2)*1i, api.OK}, {1<<20 + 1<<20*1i, 1<<20 - 2.0625 + (1<<20)*1i, api.ErrProof},
		{1 << 20 * least, (1<<20 + 2) * least, api.OK}, {1 << 20 * least, (1<<20 + 3) * least, api.ErrProof}, {1 << 20 * least, (1<<20 - 2) * least, api.OK}, {1 << 20 * least, (1<<20 - 3) * least, api.ErrProof},
		{(1<<20 - 1) * least, (1<<20 + 1) * least, api.ErrProof}, {(1<<20 - 1) * least, 1 << 20 * least, api.OK},
	} {
		field[0][0] = row.first
		want(t, "CheckTransform", sensor.CheckTransform(field, filled(row.part)), row.e)
	}
	want(t, "CheckTransform of -0", sensor.CheckTransform(zeros, filled(complex(minus0, minus0))), api.OK)
	for _, n := range []int{2, 4} {
		none := square(n, func(int, int) complex64 { return complex(minus0, minus0) })
		want(t, "CheckTransform of -0", sensor.CheckTransform(none, none), api.OK)
		got, e := sensor.Transform(none)
		want(t, "Transform of -0", e, api.OK)
		noMinus0(t, "Transform of -0", got)
		none[n-1][0] = least
		want(t, "CheckTransform without a tolerance", sensor.CheckTransform(square(n, func(int, int) complex64 { return 0 }), none), api.ErrProof)
	}
}

// TestEachNumberOfTheSpan has floats that are within the tolerance of one end of a span, but not of
// the other one.
func TestEachNumberOfTheSpan(t *testing.T) {
	random := rand.New(rand.NewSource(44))
	found := 0
	cosine := waves()[1][0]
	field := square(8, func(int, int) complex64 { return 0 })
	for range 4000 {
		field[0][1] = complex(1+random.Float32(), 0)
		tolerance := toleranceOf(field)
		part := spanOf(cosine, exactly(real(field[0][1])))
		for side, beyond := range [2]float32{-infinity, infinity} {
			f := math.Nextafter32(limits(part, tolerance)[side], beyond)
			within := new(big.Rat).Abs(minus(exactly(f), [2]*big.Rat{part.low, part.high}[side])).Cmp(tolerance) <= 0
			if !within {
				continue
			}
			found++
			right, _ := sensor.Transform(field)
			right[0][1] = complex(f, imag(right[0][1]))
			want(t, "CheckTransform", sensor.CheckTransform(field, right), api.ErrProof)
		}
	}
	want(t, "floats between the limits", found > 20, true)
}

// wrongField is a square with its first error.
type wrongField struct {
	field [][]complex64
	e     api.Errno
}

// wrongRows are tables with a wrong row, for squares of a size, with their first error.
func wrongRows(n int) []wrongField {
	nans := func(row, column int) complex64 { return complex(nan, 0) }
	short, long, form, mixed := square(n, nans), square(n, nans), square(n, nans), square(n, nans)
	short[0], long[0] = short[0][1:], append(long[0], 0)
	form[1] = form[1][1:]
	for row := range n - 1 {
		for column := range n {
			mixed[row][column] = 0
		}
	}
	mixed[n-1] = mixed[n-1][1:]
	list := []wrongField{{short, api.ErrShape}, {long, api.ErrShape}, {form, api.ErrForm}, {mixed, api.ErrShape}}
	for _, c := range []complex64{complex(nan, 0), complex(0, nan), complex(infinity, 0), complex(0, -infinity), complex(-infinity, nan)} {
		last := square(n, func(int, int) complex64 { return 1 })
		last[n-1][n-1] = c
		list = append(list, wrongField{last, api.ErrForm})
	}
	return list
}

func TestFieldErrors(t *testing.T) {
	for n := range 20 {
		phases := square(n, func(int, int) int { return 0 })
		field := square(n, func(int, int) complex64 { return complex(nan, 0) })
		numbers := square(n, func(int, int) api.Rat { return "x" })
		images := [4][][]api.Rat{numbers, nil, nil, nil}
		if n != 2 && n != 4 {
			want(t, "Images", both(sensor.Images(phases)), fails[[4][][]api.Rat](api.ErrRange))
		}
		if n == 2 || n == 4 || n == 8 {
			want(t, "Field", both(sensor.Field(phases)).Error, api.OK)
			want(t, "Transform", both(sensor.Transform(field)), fails[[][]complex64](api.ErrForm))
			want(t, "Signals", both(sensor.Signals(images)), fails[[][][2]api.Rat](api.ErrForm))
			continue
		}
		want(t, "Field", both(sensor.Field(phases)), fails[[][]complex64](api.ErrRange))
		want(t, "Transform", both(sensor.Transform(field)), fails[[][]complex64](api.ErrRange))
		want(t, "CheckTransform", sensor.CheckTransform(field, nil), api.ErrRange)
		want(t, "CheckTransform", sensor.CheckTransform(field, field), api.ErrRange)
		want(t, "Signals", both(sensor.Signals(images)), fails[[][][2]api.Rat](api.ErrRange))
	}
	for _, n := range []int{2, 4, 8} {
		for _, width := range []int{0, 1, n - 1, n + 1} {
			for row := range n {
				phases := square(n, func(int, int) int { return 1 })
				phases[row] = make([]int, width)
				want(t, "Field", both(sensor.Field(phases)), fails[[][]complex64](api.ErrShape))
				if n < 8 {
					want(t, "Images", both(sensor.Images(phases)), fails[[4][][]api.Rat](api.ErrShape))
				}
			}
		}
		good := square(n, func(int, int) complex64 { return 0 })
		for _, row := range wrongRows(n) {
			want(t, "Transform", both(sensor.Transform(row.field)), fails[[][]complex64](row.e))
			want(t, "CheckTransform", sensor.CheckTransform(row.field, nil), row.e)
			want(t, "CheckTransform", sensor.CheckTransform(row.field, good), row.e)
			want(t, "CheckTransform", sensor.CheckTransform(good, row.field), row.e)
			good[0][0] = greatest // whose transform is too large for 8 rows
			want(t, "CheckTransform", sensor.CheckTransform(good, row.field), row.e)
			good[0][0] = 0
		}
		for _, other := range []int{0, 1, 2, 4, 8, 16} {
			if other != n {
				want(t, "CheckTransform", sensor.CheckTransform(good, square(other, func(int, int) complex64 { return complex(nan, 0) })), api.ErrShape)
			}
		}
	}
}

// images returns the images of a pyramid, by their definition.
func images(phases [][]int) [4][][]api.Rat {
	n := len(phases)
	v := transformed(square(n, func(row, column int) complex64 { return turned(phases[row][column]) }))
	var all [4][][]api.Rat
	for q := range all {
		all[q] = square(n, func(a, b int) api.Rat {
			sum := isExactly(0)
			for k := range n {
				for l := range n {
					if (k >= n/2) == (q >= 2) && (l >= n/2) == (q%2 == 1) {
						sum = sum.plus(v[k][l].times(isExactly(turned((a*k + b*l) * 4 / n))))
					}
				}
			}
			return rat(over(plus(times(sum.re, sum.re), times(sum.im, sum.im)), integer(n*n*n*n)))
		})
	}
	return all
}

func TestImages(t *testing.T) {
	random := rand.New(rand.NewSource(45))
	for _, n := range []int{2, 4} {
		for range 150 {
			phases := square(n, func(int, int) int { return somePhase(random) })
			want(t, "Images", both(sensor.Images(phases)), is(images(phases)))
		}
	}
	for choice := range 256 {
		phases := [][]int{{choice & 3, choice >> 2 & 3}, {choice >> 4 & 3, choice >> 6}}
		want(t, "Images", both(sensor.Images(phases)), is(images(phases)))
	}
}

// signals returns the signals of images, by their definition.
func signals(images [4][][]api.Rat) result[[][][2]api.Rat] {
	n := len(images[0])
	mean := new(big.Rat)
	for _, image := range images {
		for _, row := range image {
			for _, a := range row {
				mean = plus(mean, value(a))
			}
		}
	}
	mean = over(mean, integer(n*n))
	if mean.Sign() == 0 {
		return fails[[][][2]api.Rat](api.ErrZero)
	}
	large := false
	all := square(n, func(row, column int) [2]api.Rat {
		var x [4]*big.Rat
		for q, image := range images {
			x[q] = value(image[row][column])
		}
		byColumns := over(minus(plus(x[0], x[2]), plus(x[1], x[3])), mean)
		byRows := over(minus(plus(x[0], x[1]), plus(x[2], x[3])), mean)
		large = large || !fits(byColumns) || !fits(byRows)
		return [2]api.Rat{rat(byColumns), rat(byRows)}
	})
	if large {
		return fails[[][][2]api.Rat](api.ErrLarge)
	}
	return is(all)
}

// squares returns four squares of numbers that a function returns.
func squares(n int, element func(row, column int) api.Rat) [4][][]api.Rat {
	var all [4][][]api.Rat
	for q := range all {
		all[q] = square(n, element)
	}
	return all
}

func TestSignals(t *testing.T) {
	random := rand.New(rand.NewSource(46))
	for _, n := range []int{2, 4, 8} {
		for range 60 {
			images := squares(n, func(int, int) api.Rat { return rat(small(random)) })
			want(t, "Signals", both(sensor.Signals(images)), signals(images))
		}
		if n == 8 {
			continue
		}
		for range 20 {
			phases := square(n, func(int, int) int { return somePhase(random) })
			images, _ := sensor.Images(phases)
			want(t, "Signals of a pyramid", both(sensor.Signals(images)), signals(images))
		}
	}
}

func TestSignalEdges(t *testing.T) {
	failed := func(e api.Errno) result[[][][2]api.Rat] { return fails[[][][2]api.Rat](e) }
	number := func(a api.Rat) func(int, int) api.Rat { return func(int, int) api.Rat { return a } }
	for _, n := range []int{2, 4, 8} {
		all := squares(n, number("0"))
		want(t, "images of 0", both(sensor.Signals(all)), failed(api.ErrZero))
		all[0][0][0], all[3][n-1][n-1] = nines600, "-"+nines600
		want(t, "a mean of 0", both(sensor.Signals(all)), failed(api.ErrZero))
		all[3][n-1][n-1] = "0"
		want(t, "a single number", both(sensor.Signals(all)), signals(all))
		all[1][n-1][0], all[2][0][n-1] = "1/3", "-1/3"
		want(t, "signals with too many digits", both(sensor.Signals(all)), failed(api.ErrLarge))
	}
	all := squares(2, number("1"))
	all[2][1][1] = "-" + nines600
	want(t, "a negative mean", both(sensor.Signals(all)), signals(all))
	all = squares(2, number(nines600))
	want(t, "large on the way", both(sensor.Signals(all)), is(square(2, func(int, int) [2]api.Rat { return [2]api.Rat{"0", "0"} })))
	all[3][1][1] = "-" + nines600
	want(t, "the last signals alone", both(sensor.Signals(all)), signals(all))
	for _, last := range []api.Rat{"1/" + nines600, nines600[:300] + "/" + nines600[:299] + "8"} {
		for q := range all {
			all = squares(2, number("1"))
			all[q][1][1] = last
			want(t, "many digits in one number", both(sensor.Signals(all)), signals(all))
		}
	}
}

func TestSignalErrors(t *testing.T) {
	failed := func(e api.Errno) result[[][][2]api.Rat] { return fails[[][][2]api.Rat](e) }
	for _, n := range []int{2, 4, 8} {
		zero := func(int, int) api.Rat { return "0" }
		later := square(n+1, func(int, int) api.Rat { return "x" })
		for q := range 4 {
			with := func(image [][]api.Rat) [4][][]api.Rat {
				all := [4][][]api.Rat{later, later, later, later}
				for k := range q {
					all[k] = square(n, zero)
				}
				all[q] = image
				return all
			}
			changed := func(change func(image [][]api.Rat)) [4][][]api.Rat {
				image := square(n, zero)
				change(image)
				return with(image)
			}
			for _, row := range []struct {
				all [4][][]api.Rat
				e   api.Errno
			}{
				{changed(func(image [][]api.Rat) { image[0][0], image[0][1] = "x", digits601 }), api.ErrForm},
				{changed(func(image [][]api.Rat) { image[0][n-1], image[1] = digits601, nil }), api.ErrLarge},
				{changed(func(image [][]api.Rat) { image[n-1][n-1] = "2/4" }), api.ErrForm},
				{changed(func(image [][]api.Rat) { image[0] = []api.Rat{"x"}; image[1][0] = digits601 }), api.ErrShape},
				{changed(func(image [][]api.Rat) { image[n-1] = append(image[n-1], "x") }), api.ErrShape},
				{changed(func(image [][]api.Rat) { image[n-1] = image[n-1][1:] }), api.ErrShape},
			} {
				want(t, "Signals", both(sensor.Signals(row.all)), failed(row.e))
			}
			if q > 0 {
				for _, other := range []int{0, 1, 2, 4, 8, 16} {
					if other != n {
						want(t, "Signals", both(sensor.Signals(with(square(other, func(int, int) api.Rat { return "x" })))), failed(api.ErrShape))
					}
				}
			}
		}
	}
}
