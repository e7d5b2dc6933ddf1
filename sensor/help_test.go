package sensor_test

import (
	"math"
	"math/big"
	"math/rand"
	"reflect"
	"strings"
	"testing"

	"lenslet/api"
	"lenslet/sensor"
)

const far = 1<<63 - 1

var (
	nines600  = api.Rat(strings.Repeat("9", api.MaxDigits))
	digits601 = api.Rat("1" + strings.Repeat("0", api.MaxDigits))
)

// want reports results that differ from the expected ones.
func want(t *testing.T, what string, got, wanted any) {
	t.Helper()
	if !alike(reflect.ValueOf(got), reflect.ValueOf(wanted)) {
		t.Errorf("%s: got %v, want %v", what, got, wanted)
	}
}

// alike reports whether two values are equal; empty slices, also those of results, are equal to nil ones.
func alike(a, b reflect.Value) bool {
	switch {
	case a.Type() != b.Type():
		return false
	case a.Kind() == reflect.Slice && a.Len() == 0 && b.Len() == 0:
		return true
	case a.Kind() == reflect.Struct:
		for i := range a.NumField() {
			if !alike(a.Field(i), b.Field(i)) {
				return false
			}
		}
		return true
	}
	return reflect.DeepEqual(a.Interface(), b.Interface())
}

// result is a result with its error.
type result[T any] struct {
	Value T
	Error api.Errno
}

// both joins a result with its error.
func both[T any](value T, e api.Errno) result[T] { return result[T]{value, e} }

// fails is the result of a function that returns an error: the zero value beside it.
func fails[T any](e api.Errno) result[T] { return result[T]{Error: e} }

// is is the result of a function that returns no error.
func is[T any](value T) result[T] { return result[T]{value, api.OK} }

// rat returns the string of a number.
func rat(x *big.Rat) api.Rat { return api.Rat(x.RatString()) }

// value returns the number of a string.
func value(a api.Rat) *big.Rat {
	x, ok := new(big.Rat).SetString(string(a))
	if !ok {
		panic("not a number: " + string(a))
	}
	return x
}

// small returns a number with few digits.
func small(random *rand.Rand) *big.Rat {
	return big.NewRat(int64(random.Intn(41)-20), int64(1+random.Intn(6)))
}

func plus(x, y *big.Rat) *big.Rat  { return new(big.Rat).Add(x, y) }
func minus(x, y *big.Rat) *big.Rat { return new(big.Rat).Sub(x, y) }
func times(x, y *big.Rat) *big.Rat { return new(big.Rat).Mul(x, y) }
func over(x, y *big.Rat) *big.Rat  { return new(big.Rat).Quo(x, y) }
func integer(n int) *big.Rat       { return big.NewRat(int64(n), 1) }

// power2 returns 2 to the power of an exponent.
func power2(exponent int) *big.Rat {
	if exponent < 0 {
		return over(integer(1), power2(-exponent))
	}
	return new(big.Rat).SetInt(new(big.Int).Lsh(big.NewInt(1), uint(exponent)))
}

// exactly returns the exact value of a float.
func exactly(f float32) *big.Rat { return new(big.Rat).SetFloat64(float64(f)) }

// nearest returns the nearest float to a number, and whether it is not too large.
func nearest(x *big.Rat) (float32, bool) {
	f, _ := x.Float32()
	return f + 0, !math.IsInf(float64(f), 0) // -0 + 0 is 0
}

// fits reports whether a number is within the limit of digits.
func fits(x *big.Rat) bool {
	return len(new(big.Int).Abs(x.Num()).String()) <= api.MaxDigits && len(x.Denom().String()) <= api.MaxDigits
}

// wrong are strings that are not numbers.
func wrong() []api.Rat {
	return []api.Rat{"", "-", "-0", "+1", "01", " 1", "1/", "/2", "1/0", "1/1", "1/-2", "2/4", "0/5", "1.5", "x", "\xff"}
}

// wrongRat is a number with its first error.
type wrongRat struct {
	a api.Rat
	e api.Errno
}

// wrongSizes are the wrong numbers, and those below 0.
func wrongSizes() []wrongRat {
	list := []wrongRat{{digits601, api.ErrLarge}, {"1/" + digits601, api.ErrLarge}, {"-" + digits601, api.ErrLarge}, {"-1", api.ErrRange}, {"-1/" + nines600, api.ErrRange}}
	for _, a := range wrong() {
		list = append(list, wrongRat{a, api.ErrForm})
	}
	return list
}

var (
	nan      = float32(math.NaN())
	infinity = float32(math.Inf(1))
	minus0   = float32(math.Copysign(0, -1))
)

const (
	least    = math.SmallestNonzeroFloat32
	greatest = math.MaxFloat32
)

// example is the geometry G of the chapter's examples.
func example() sensor.Geometry { return sensor.Geometry{Columns: 2, Rows: 1, Side: 2} }

// single is one lenslet.
func single(side int) sensor.Geometry { return sensor.Geometry{Columns: 1, Rows: 1, Side: side} }

// largest is the geometry with the most lenslets and pixels.
func largest() sensor.Geometry { return sensor.Geometry{Columns: 8, Rows: 8, Side: 8} }

// someGeometry returns a geometry with few pixels.
func someGeometry(random *rand.Rand) sensor.Geometry {
	return sensor.Geometry{Columns: 1 + random.Intn(4), Rows: 1 + random.Intn(4), Side: 2 + random.Intn(4)}
}

// rows returns a frame with the counts of its rows one after another.
func rows(width int, counts ...float32) [][]float32 {
	var frame [][]float32
	for i := 0; i < len(counts); i += width {
		frame = append(frame, counts[i:i+width:i+width])
	}
	return frame
}

// frameOf returns a frame with counts that a function returns.
func frameOf(g sensor.Geometry, count func() float32) [][]float32 {
	var frame [][]float32
	for range g.Rows * g.Side {
		var row []float32
		for range g.Columns * g.Side {
			row = append(row, count())
		}
		frame = append(frame, row)
	}
	return frame
}

// even returns a frame with the same count everywhere.
func even(g sensor.Geometry, count float32) [][]float32 {
	return frameOf(g, func() float32 { return count })
}

// someCount returns a count: mostly a small one, so that equal ones and 0 are frequent.
func someCount(random *rand.Rand) float32 {
	switch random.Intn(8) {
	case 0:
		return minus0
	case 1:
		return float32(random.NormFloat64())
	case 2:
		return math.Float32frombits(random.Uint32() &^ 0x40000000) // below 2 in magnitude
	case 3:
		return float32(math.Ldexp(random.Float64(), random.Intn(260)-149)) // up to 2^110
	}
	return float32(random.Intn(9) - 2)
}

// someFrame returns a frame with some counts.
func someFrame(random *rand.Rand, g sensor.Geometry) [][]float32 {
	return frameOf(g, func() float32 { return someCount(random) })
}

// positiveFrame returns a frame with some counts above 0.
func positiveFrame(random *rand.Rand, g sensor.Geometry) [][]float32 {
	return frameOf(g, func() float32 {
		return max(float32(math.Abs(float64(someCount(random)))), float32(random.Intn(3)), least)
	})
}

// table is exact counts, row by row.
type table [][]*big.Rat

// exactRows returns the exact values of samples.
func exactRows(samples [][]float32) table {
	var all table
	for _, row := range samples {
		var list []*big.Rat
		for _, f := range row {
			list = append(list, exactly(f))
		}
		all = append(all, list)
	}
	return all
}

// behind returns the exact counts behind a lenslet.
func behind(g sensor.Geometry, frame [][]float32, lenslet int) table {
	var all table
	c, r := lenslet%g.Columns, lenslet/g.Columns
	for k := r * g.Side; k < (r+1)*g.Side; k++ {
		all = append(all, exactRows([][]float32{frame[k][c*g.Side : (c+1)*g.Side]})[0])
	}
	return all
}

// coordinate returns the coordinate of a column or row in a subaperture.
func coordinate(i, side int) *big.Rat {
	return minus(plus(integer(i), big.NewRat(1, 2)), big.NewRat(int64(side), 2))
}

// centroid returns the flux of counts, and their centroid if the flux is above 0.
func centroid(counts table) (flux *big.Rat, place [2]*big.Rat) {
	flux = new(big.Rat)
	x, y := new(big.Rat), new(big.Rat)
	for k, row := range counts {
		for i, count := range row {
			flux = plus(flux, count)
			x = plus(x, times(coordinate(i, len(counts)), count))
			y = plus(y, times(coordinate(k, len(counts)), count))
		}
	}
	if flux.Sign() > 0 {
		place = [2]*big.Rat{over(x, flux), over(y, flux)}
	}
	return flux, place
}

// wrongGeometries have the error ErrRange.
func wrongGeometries() []sensor.Geometry {
	return []sensor.Geometry{
		{}, {0, 1, 2}, {9, 1, 2}, {-1, 1, 2}, {1, 0, 2}, {1, 9, 2}, {1, -1, 2}, {1, 1, 1}, {1, 1, 9}, {1, 1, 0}, {1, 1, -2},
		{far, far, far}, {-far - 1, -far - 1, -far - 1}, {1, 1, far}, {1 << 32, 1 << 32, 1 << 32}, {1 << 62, 1, 4}, {-2, -2, -2},
	}
}

// wrongFrame is a frame for the example with its first error.
type wrongFrame struct {
	frame [][]float32
	e     api.Errno
}

// wrongFrames are frames of which each has the errors of its place in the order and of later ones.
func wrongFrames() []wrongFrame {
	return []wrongFrame{
		{nil, api.ErrShape},
		{[][]float32{{nan, 1, 1, 1}}, api.ErrShape},
		{[][]float32{{nan, 1, 1, 1}, {1, 1, 1, 1}, {1, 1, 1, 1}}, api.ErrShape},
		{[][]float32{nil, {1, 1, 1, 1}}, api.ErrShape},
		{[][]float32{{nan, 1, 1}, {1, 1, 1, 1}}, api.ErrShape},
		{[][]float32{{nan, 1, 1, 1, 1}, {nan, 1, 1, 1}}, api.ErrShape},
		{[][]float32{{1, 1, 1, nan}, {1, 1, 1}}, api.ErrForm},
		{[][]float32{{infinity, 1, 1, 1}, {1, 1, 1, 1, 1}}, api.ErrForm},
		{[][]float32{{1, -infinity, 1, 1}, {1, 1, 1, 1}}, api.ErrForm},
		{[][]float32{{1, 1, 1, 1}, {1, 1, 1, nan}}, api.ErrForm},
		{[][]float32{{1, 1, 1, 1}, {nan, 1, 1}}, api.ErrShape},
		{[][]float32{{1, 1, 1, 1}, {nan, 1, 1, 1, 1}}, api.ErrShape},
	}
}

// anyWrong is a frame with later errors than those of the arguments before it.
func anyWrong() [][]float32 { return [][]float32{{nan}} }
