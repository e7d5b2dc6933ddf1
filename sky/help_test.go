package sky_test

import (
	"math/big"
	"math/rand"
	"reflect"
	"slices"
	"strings"
	"testing"

	"lenslet/api"
	"lenslet/sky"
)

const far = 1<<63 - 1

var (
	nines600  = api.Rat(strings.Repeat("9", api.MaxDigits))
	digits601 = api.Rat("1" + strings.Repeat("0", api.MaxDigits))
)

// power10 returns 10 to the power of an exponent.
func power10(exponent int) api.Rat { return api.Rat("1" + strings.Repeat("0", exponent)) }

// want reports results that differ from the expected ones.
func want(t *testing.T, what string, got, wanted any) {
	t.Helper()
	if !alike(reflect.ValueOf(got), reflect.ValueOf(wanted)) {
		t.Errorf("%s: got %v, want %v", what, got, wanted)
	}
}

// alike reports whether two values are equal; empty slices, also those of results, are equal to nil ones.
func alike(a, b reflect.Value) bool {
	switch {
	case a.Type() != b.Type():
		return false
	case a.Kind() == reflect.Slice && a.Len() == b.Len():
		for i := range a.Len() {
			if !alike(a.Index(i), b.Index(i)) {
				return false
			}
		}
		return true
	case a.Kind() == reflect.Struct:
		for i := range a.NumField() {
			if !alike(a.Field(i), b.Field(i)) {
				return false
			}
		}
		return true
	}
	return reflect.DeepEqual(a.Interface(), b.Interface())
}

// result is a result with its error.
type result[T any] struct {
	Value T
	Error api.Errno
}

// both joins a result with its error.
func both[T any](value T, e api.Errno) result[T] { return result[T]{value, e} }

// fails is the result of a function that returns an error: the zero value beside it.
func fails[T any](e api.Errno) result[T] { return result[T]{Error: e} }

// is is the result of a function that returns no error.
func is[T any](value T) result[T] { return result[T]{value, api.OK} }

func plus(x, y *big.Rat) *big.Rat  { return new(big.Rat).Add(x, y) }
func minus(x, y *big.Rat) *big.Rat { return new(big.Rat).Sub(x, y) }
func times(x, y *big.Rat) *big.Rat { return new(big.Rat).Mul(x, y) }
func over(x, y *big.Rat) *big.Rat  { return new(big.Rat).Quo(x, y) }
func integer(n int) *big.Rat       { return big.NewRat(int64(n), 1) }

// value returns the number of a string.
func value(a api.Rat) *big.Rat {
	x, ok := new(big.Rat).SetString(string(a))
	if !ok {
		panic("not a number: " + string(a))
	}
	return x
}

// rat returns the string of a number.
func rat(x *big.Rat) api.Rat { return api.Rat(x.RatString()) }

// list returns the numbers that stand in a string.
func list(s string) []api.Rat {
	var all []api.Rat
	for _, a := range strings.Fields(s) {
		all = append(all, api.Rat(a))
	}
	return all
}

// at returns a place.
func at(x, y api.Rat) api.Place { return api.Place{X: x, Y: y} }

// origin returns the place 0, 0.
func origin() api.Place { return at("0", "0") }

// filled returns a square of the same value.
func filled(side, value int) [][]int {
	rows := make([][]int, side)
	for i := range rows {
		rows[i] = slices.Repeat([]int{value}, side)
	}
	return rows
}

// copied returns a copy of rows.
func copied(rows [][]int) [][]int {
	var all [][]int
	for _, row := range rows {
		all = append(all, slices.Clone(row))
	}
	return all
}

// point is a place whose coordinates are numbers.
type point struct{ x, y *big.Rat }

// pointOf returns a place as a point.
func pointOf(p api.Place) point { return point{value(p.X), value(p.Y)} }

// place returns a point as a place.
func (p point) place() api.Place { return at(rat(p.x), rat(p.y)) }

// plus returns the sum of two points.
func (p point) plus(q point) point { return point{plus(p.x, q.x), plus(p.y, q.y)} }

// times returns a point times a factor.
func (p point) times(a *big.Rat) point { return point{times(p.x, a), times(p.y, a)} }

// modulo returns an integer modulo a divisor, from 0 on.
func modulo(n *big.Int, divisor int) int {
	return int(new(big.Int).Mod(n, big.NewInt(int64(divisor))).Int64())
}

// cellOf returns the value of the cell of a periodic screen.
func cellOf(s [][]int, column, row int) int {
	wrap := func(n int) int { return modulo(big.NewInt(int64(n)), len(s)) }
	return s[wrap(row)][wrap(column)]
}

// floored returns the integer part of a number, rounded down, and its fraction.
func floored(x *big.Rat) (*big.Int, *big.Rat) {
	floor := new(big.Int).Div(x.Num(), x.Denom())
	return floor, minus(x, new(big.Rat).SetInt(floor))
}

// interpolated returns the value of a screen at a point, by its definition.
func interpolated(s [][]int, p point) *big.Rat {
	i, f := floored(p.x)
	j, g := floored(p.y)
	column, row := modulo(i, len(s)), modulo(j, len(s))
	one := integer(1)
	value := func(columns, rows int) *big.Rat { return integer(cellOf(s, column+columns, row+rows)) }
	sum := times(times(minus(one, f), minus(one, g)), value(0, 0))
	sum = plus(sum, times(times(f, minus(one, g)), value(1, 0)))
	sum = plus(sum, times(times(minus(one, f), g), value(0, 1)))
	return plus(sum, times(times(f, g), value(1, 1)))
}

// reaches reports whether a star is above a height.
func reaches(s sky.Star, height *big.Rat) bool {
	return s.Height == "0" || height.Cmp(value(s.Height)) < 0
}

// footprint returns where a ray passes a height, by its definition.
func footprint(s sky.Star, height *big.Rat, p point) point {
	if s.Height != "0" {
		p = p.times(minus(integer(1), over(height, value(s.Height))))
	}
	return p.plus(pointOf(s.Direction).times(height))
}

// position returns where a ray passes a layer, by its definition.
func position(l sky.Layer, s sky.Star, p api.Place, frame int) point {
	foot := footprint(s, value(l.Height), pointOf(p)).times(value(l.Scale))
	return foot.plus(pointOf(l.Offset)).plus(pointOf(l.Wind).times(integer(frame)))
}

// phase returns the phase of layers, by its definition.
func phase(layers []sky.Layer, s sky.Star, p api.Place, frame int) *big.Rat {
	sum := new(big.Rat)
	for _, l := range layers {
		if reaches(s, value(l.Height)) {
			sum = plus(sum, times(value(l.Strength), interpolated(l.Screen, position(l, s, p, frame))))
		}
	}
	return sum
}

// small returns a number with few digits, often 0 or another integer.
func small(random *rand.Rand) *big.Rat {
	return big.NewRat(int64(random.Intn(25)-12), int64(1+random.Intn(4)))
}

// someScreen returns a screen with a side from 1 to a greatest one.
func someScreen(random *rand.Rand, most int) [][]int {
	s := filled(1+random.Intn(most), 0)
	for _, row := range s {
		for i := range row {
			row[i] = random.Intn(2*sky.MaxValue+1) - sky.MaxValue
		}
	}
	return s
}

// somePlace returns a place, often between cells and below 0.
func somePlace(random *rand.Rand) api.Place { return at(rat(small(random)), rat(small(random))) }

// somePlaces returns so many places.
func somePlaces(random *rand.Rand, n int) []api.Place {
	places := make([]api.Place, n)
	for i := range places {
		places[i] = somePlace(random)
	}
	return places
}

// someHeight returns a height, often 0 or an integer.
func someHeight(random *rand.Rand) api.Rat {
	return rat(big.NewRat(int64(random.Intn(8)), int64(1+random.Intn(2))))
}

// someLayer returns a layer whose screen has a side from 1 to a greatest one.
func someLayer(random *rand.Rand, most int) sky.Layer {
	return sky.Layer{
		Screen:   someScreen(random, most),
		Height:   someHeight(random),
		Scale:    rat(big.NewRat(int64(1+random.Intn(9)), int64(1+random.Intn(3)))),
		Strength: rat(small(random)),
		Offset:   somePlace(random),
		Wind:     somePlace(random),
	}
}

// someLayers returns so many layers.
func someLayers(random *rand.Rand, n, most int) []sky.Layer {
	layers := make([]sky.Layer, n)
	for i := range layers {
		layers[i] = someLayer(random, most)
	}
	return layers
}

// someStar returns a star, often a natural one.
func someStar(random *rand.Rand) sky.Star {
	s := sky.Star{Direction: somePlace(random), Height: "0"}
	if random.Intn(3) > 0 {
		s.Height = someHeight(random)
	}
	return s
}

// exampleScreen returns the screen S of the chapter's examples.
func exampleScreen() [][]int { return [][]int{{0, 1}, {2, 3}} }

// example returns the layer L of the chapter's examples.
func example() sky.Layer {
	return sky.Layer{Screen: exampleScreen(), Height: "5", Scale: "1", Strength: "1/2", Offset: origin(), Wind: at("1/2", "0")}
}

// slanted returns the natural star of the chapter's examples.
func slanted() sky.Star { return sky.Star{Direction: at("1/10", "0"), Height: "0"} }

// laser returns the laser star of the chapter's examples.
func laser() sky.Star { return sky.Star{Direction: origin(), Height: "10"} }

// wrongRat is a number with its first error.
type wrongRat struct {
	a api.Rat
	e api.Errno
}

// wrongRats are strings that are not numbers, and numbers that are out of range.
func wrongRats(outside ...api.Rat) []wrongRat {
	all := []wrongRat{{digits601, api.ErrLarge}, {"1/" + digits601, api.ErrLarge}, {"-" + digits601, api.ErrLarge}}
	for _, a := range []api.Rat{"", "-", "-0", "+1", "01", " 1", "1/", "/2", "1/0", "1/1", "1/-2", "2/4", "0/5", "1.5", "x", "\xff"} {
		all = append(all, wrongRat{a, api.ErrForm})
	}
	for _, a := range outside {
		all = append(all, wrongRat{a, api.ErrRange})
	}
	return all
}

// wrongPlace is a place with its first error.
type wrongPlace struct {
	at api.Place
	e  api.Errno
}

// wrongPlaces are places with an error.
func wrongPlaces() []wrongPlace {
	all := []wrongPlace{{api.Place{}, api.ErrForm}, {at("?", digits601), api.ErrForm}, {at(digits601, "?"), api.ErrLarge}}
	for _, w := range wrongRats() {
		all = append(all, wrongPlace{at(w.a, "0"), w.e}, wrongPlace{at("0", w.a), w.e})
	}
	return all
}

// wrongInts are integers that are neither frames nor numbers of frames, columns or rows.
func wrongInts() []int { return []int{-far - 1, -api.MaxNumber - 1, api.MaxNumber + 1, far} }

// wrongSquare is a square of integers with its first error.
type wrongSquare struct {
	rows [][]int
	e    api.Errno
}

// wrongRows are rows in which some are too short or too long, or a value is out of range; the number of
// rows is odd.
func wrongRows(greatest int) []wrongSquare {
	all := []wrongSquare{
		{[][]int{{1}, {1}, {1}}, api.ErrShape},
		{[][]int{{1, 2, 3}, {1, 2, 3}, {1, 2}}, api.ErrShape},
		{[][]int{{1, 2, 3}, {1, 2, 3, 4}, {far, 2, 3}}, api.ErrShape},
		{[][]int{{1, 2, 3}, {1, far, 3}, {1, 2}}, api.ErrRange},
		{[][]int{{far, far, far, far}, {1, 2, 3}, {1, 2, 3}}, api.ErrShape},
		{[][]int{nil, {far, 1, 1}, {1, 1, 1}}, api.ErrShape},
		{[][]int{{1, 2}}, api.ErrShape},
		{[][]int{{}}, api.ErrShape},
	}
	for _, value := range []int{-far - 1, -greatest - 1, greatest + 1, far} {
		for _, side := range []int{1, 3} {
			rows := filled(side, greatest)
			rows[side-1][side-1] = value
			all = append(all, wrongSquare{rows, api.ErrRange})
		}
	}
	return all
}

// wrongScreens are screens with an error.
func wrongScreens() []wrongSquare {
	all := []wrongSquare{
		{nil, api.ErrEmpty},
		{[][]int{}, api.ErrEmpty},
		{filled(17, 0), api.ErrMany},
		{make([][]int, 17), api.ErrMany},
		{make([][]int, 5000), api.ErrMany},
		{make([][]int, 16), api.ErrShape},
		{filled(17, 1)[:16], api.ErrShape},
	}
	return append(all, wrongRows(sky.MaxValue)...)
}

// wrongLayer is a layer with its first error.
type wrongLayer struct {
	l sky.Layer
	e api.Errno
}

// wrongLayers are layers with an error, among them layers with several ones.
func wrongLayers() []wrongLayer {
	all := []wrongLayer{
		{sky.Layer{}, api.ErrEmpty},
		{sky.Layer{Screen: exampleScreen()}, api.ErrForm},
		{sky.Layer{Screen: exampleScreen(), Height: "-1", Scale: "?"}, api.ErrRange},
		{sky.Layer{Screen: exampleScreen(), Height: "0", Scale: digits601}, api.ErrLarge},
		{sky.Layer{Screen: exampleScreen(), Height: "0", Scale: "0", Strength: "?"}, api.ErrRange},
		{sky.Layer{Screen: exampleScreen(), Height: "0", Scale: "1", Strength: digits601}, api.ErrLarge},
		{sky.Layer{Screen: exampleScreen(), Height: "0", Scale: "1", Strength: "0", Offset: at(digits601, "?")}, api.ErrLarge},
		{sky.Layer{Screen: exampleScreen(), Height: "0", Scale: "1", Strength: "0", Offset: origin(), Wind: at("0", digits601)}, api.ErrLarge},
	}
	add := func(e api.Errno, change func(*sky.Layer)) {
		l := example()
		change(&l)
		all = append(all, wrongLayer{l, e})
	}
	for _, w := range wrongScreens() {
		add(w.e, func(l *sky.Layer) { l.Screen = w.rows })
		all = append(all, wrongLayer{sky.Layer{Screen: w.rows}, w.e})
	}
	for _, w := range wrongRats("-1", "-1/"+nines600) {
		add(w.e, func(l *sky.Layer) { l.Height = w.a })
	}
	for _, w := range wrongRats("0", "-1", "-1/"+nines600) {
		add(w.e, func(l *sky.Layer) { l.Scale = w.a })
	}
	for _, w := range wrongRats() {
		add(w.e, func(l *sky.Layer) { l.Strength = w.a })
	}
	for _, w := range wrongPlaces() {
		add(w.e, func(l *sky.Layer) { l.Offset, l.Wind = w.at, api.Place{} })
		add(w.e, func(l *sky.Layer) { l.Wind = w.at })
	}
	return all
}

// wrongStar is a star with its first error.
type wrongStar struct {
	s sky.Star
	e api.Errno
}

// wrongStars are stars with an error, among them stars with several ones.
func wrongStars() []wrongStar {
	all := []wrongStar{{sky.Star{}, api.ErrForm}, {sky.Star{Height: "-1"}, api.ErrForm}}
	for _, w := range wrongPlaces() {
		all = append(all, wrongStar{sky.Star{Direction: w.at, Height: "-1"}, w.e}, wrongStar{sky.Star{Direction: w.at, Height: "1"}, w.e})
	}
	for _, w := range wrongRats("-1", "-1/"+nines600) {
		all = append(all, wrongStar{sky.Star{Direction: origin(), Height: w.a}, w.e})
	}
	return all
}

// wrongList is a list of layers, of stars, or of places, with its first error.
type wrongList[T any] struct {
	list []T
	e    api.Errno
}

// wrongListsOf returns lists with an error: those that have more than so many elements, and those in which
// an element is wrong.
func wrongListsOf[T any](most int, good T, wrong []wrongList[T]) []wrongList[T] {
	var zero T
	all := []wrongList[T]{
		{slices.Repeat([]T{good}, most+1), api.ErrMany},
		{slices.Repeat([]T{zero}, most+1), api.ErrMany},
	}
	for _, w := range wrong {
		first, last := slices.Repeat([]T{zero}, most), slices.Repeat([]T{good}, most)
		first[0], last[most-1] = w.list[0], w.list[0]
		all = append(all, w, wrongList[T]{first, w.e}, wrongList[T]{last, w.e})
	}
	return all
}

// layerLists are lists of layers with an error.
func layerLists() []wrongList[sky.Layer] {
	var wrong []wrongList[sky.Layer]
	for _, w := range wrongLayers() {
		wrong = append(wrong, wrongList[sky.Layer]{[]sky.Layer{w.l}, w.e})
	}
	return wrongListsOf(api.MaxLayers, example(), wrong)
}

// starLists are lists of stars with an error.
func starLists() []wrongList[sky.Star] {
	var wrong []wrongList[sky.Star]
	for _, w := range wrongStars() {
		wrong = append(wrong, wrongList[sky.Star]{[]sky.Star{w.s}, w.e})
	}
	return wrongListsOf(api.MaxStars, laser(), wrong)
}

// placeLists are lists of places with an error.
func placeLists() []wrongList[api.Place] {
	var wrong []wrongList[api.Place]
	for _, w := range wrongPlaces() {
		wrong = append(wrong, wrongList[api.Place]{[]api.Place{w.at}, w.e})
	}
	return wrongListsOf(sky.MaxPlaces, origin(), wrong)
}
