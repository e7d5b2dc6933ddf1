package mirror_test

import (
	"math/big"
	"math/rand"
	"reflect"
	"slices"
	"strings"
	"testing"

	"lenslet/api"
	"lenslet/mirror"
)

const far = 1<<63 - 1

var (
	nines600  = api.Rat(strings.Repeat("9", api.MaxDigits))
	digits601 = api.Rat("1" + strings.Repeat("0", api.MaxDigits))
)

// power10 returns 10 to the power of an exponent.
func power10(exponent int) api.Rat { return api.Rat("1" + strings.Repeat("0", exponent)) }

// want reports results that differ from the expected ones.
func want(t *testing.T, what string, got, wanted any) {
	t.Helper()
	if !alike(reflect.ValueOf(got), reflect.ValueOf(wanted)) {
		t.Errorf("%s: got %v, want %v", what, got, wanted)
	}
}

// alike reports whether two values are equal; empty slices, also those of results, are equal to nil ones.
func alike(a, b reflect.Value) bool {
	switch {
	case a.Type() != b.Type():
		return false
	case a.Kind() == reflect.Slice && a.Len() == b.Len():
		for i := range a.Len() {
			if !alike(a.Index(i), b.Index(i)) {
				return false
			}
		}
		return true
	case a.Kind() == reflect.Struct:
		for i := range a.NumField() {
			if !alike(a.Field(i), b.Field(i)) {
				return false
			}
		}
		return true
	}
	return reflect.DeepEqual(a.Interface(), b.Interface())
}

// result is a result with its error.
type result[T any] struct {
	Value T
	Error api.Errno
}

// both joins a result with its error.
func both[T any](value T, e api.Errno) result[T] { return result[T]{value, e} }

// fails is the result of a function that returns an error: the zero value beside it.
func fails[T any](e api.Errno) result[T] { return result[T]{Error: e} }

// is is the result of a function that returns no error.
func is[T any](value T) result[T] { return result[T]{value, api.OK} }

// nearest, saturated and rest are the results of functions that have two.
type nearest struct {
	Command []api.Rat
	Proof   mirror.Proof
}

type saturated struct{ Actuators, Links []int }

type rest struct {
	Numbers []api.Rat
	Plane   mirror.Plane
}

// nearestOf returns what Nearest returns.
func nearestOf(m mirror.Mirror, target []api.Rat) result[nearest] {
	c, p, e := mirror.Nearest(m, target)
	return both(nearest{c, p}, e)
}

// saturatedOf returns what Saturated returns.
func saturatedOf(m mirror.Mirror, c []api.Rat) result[saturated] {
	actuators, links, e := mirror.Saturated(m, c)
	return both(saturated{actuators, links}, e)
}

// offloadOf returns what Offload returns.
func offloadOf(m mirror.Mirror, c []api.Rat) result[rest] {
	numbers, p, e := mirror.Offload(m, c)
	return both(rest{numbers, p}, e)
}

// rats returns the numbers that stand in a string.
func rats(s string) []api.Rat {
	var list []api.Rat
	for _, a := range strings.Fields(s) {
		list = append(list, api.Rat(a))
	}
	return list
}

// at returns a place.
func at(x, y api.Rat) api.Place { return api.Place{X: x, Y: y} }

// rat returns the string of a number.
func rat(x *big.Rat) api.Rat { return api.Rat(x.RatString()) }

// texts returns the strings of numbers.
func texts(list []*big.Rat) []api.Rat {
	var all []api.Rat
	for _, x := range list {
		all = append(all, rat(x))
	}
	return all
}

// value returns the number of a string.
func value(a api.Rat) *big.Rat {
	x, ok := new(big.Rat).SetString(string(a))
	if !ok {
		panic("not a number: " + string(a))
	}
	return x
}

// values returns the numbers of strings.
func values(list []api.Rat) []*big.Rat {
	var all []*big.Rat
	for _, a := range list {
		all = append(all, value(a))
	}
	return all
}

func plus(x, y *big.Rat) *big.Rat  { return new(big.Rat).Add(x, y) }
func minus(x, y *big.Rat) *big.Rat { return new(big.Rat).Sub(x, y) }
func times(x, y *big.Rat) *big.Rat { return new(big.Rat).Mul(x, y) }
func over(x, y *big.Rat) *big.Rat  { return new(big.Rat).Quo(x, y) }
func size(x *big.Rat) *big.Rat     { return new(big.Rat).Abs(x) }
func opposite(x *big.Rat) *big.Rat { return new(big.Rat).Neg(x) }
func integer(n int) *big.Rat       { return big.NewRat(int64(n), 1) }

// small returns a number with few digits.
func small(random *rand.Rand) *big.Rat {
	return big.NewRat(int64(random.Intn(41)-20), int64(1+random.Intn(6)))
}

// wrongRat is a number with its first error.
type wrongRat struct {
	a api.Rat
	e api.Errno
}

// wrongRats are strings that are not numbers.
func wrongRats() []wrongRat {
	list := []wrongRat{{digits601, api.ErrLarge}, {"1/" + digits601, api.ErrLarge}, {"-" + digits601, api.ErrLarge}}
	for _, a := range []api.Rat{"", "-", "-0", "+1", "01", " 1", "1/", "/2", "1/0", "1/1", "1/-2", "2/4", "0/5", "1.5", "x", "\xff"} {
		list = append(list, wrongRat{a, api.ErrForm})
	}
	return list
}

// numbers is a list of numbers with its first error.
type numbers struct {
	list []api.Rat
	e    api.Errno
}

// wrongNumbers are wrong lists for so many elements, of which there are at least two.
func wrongNumbers(n int) []numbers {
	list := []numbers{{nil, api.ErrShape}, {make([]api.Rat, n-1), api.ErrShape}, {make([]api.Rat, n+1), api.ErrShape}}
	for _, w := range wrongRats() {
		first, last := make([]api.Rat, n), zeros(n)
		first[0], last[n-1] = w.a, w.a
		list = append(list, numbers{first, w.e}, numbers{last, w.e})
	}
	return list
}

// zeros returns numbers 0.
func zeros(n int) []api.Rat { return slices.Repeat([]api.Rat{"0"}, n) }

// wrongPlace is a place with its first error.
type wrongPlace struct {
	at api.Place
	e  api.Errno
}

// wrongPlaces are places that are none.
func wrongPlaces() []wrongPlace {
	var list []wrongPlace
	for _, w := range wrongRats() {
		list = append(list, wrongPlace{at(w.a, "-"), w.e}, wrongPlace{at("1/2", w.a), w.e})
	}
	return list
}

// placeList is a list of places with its first error.
type placeList struct {
	at []api.Place
	e  api.Errno
}

// wrongPlaceLists are lists of places of which one is wrong, or too many.
func wrongPlaceLists() []placeList {
	list := []placeList{{make([]api.Place, mirror.MaxPlaces+1), api.ErrMany}}
	for _, w := range wrongPlaces() {
		list = append(list, placeList{[]api.Place{at("0", "0"), w.at, {}}, w.e})
	}
	return list
}

// example is the mirror M of the chapter's examples.
func example() mirror.Mirror {
	return mirror.Mirror{
		Actuators: []mirror.Actuator{{At: at("0", "0")}, {At: at("1", "0")}, {At: at("2", "0")}},
		Reach:     "4", Stroke: "2", Gap: "1",
		Links: [][2]int{{0, 1}, {1, 2}},
	}
}

// slaved is the example with a slave.
func slaved() mirror.Mirror {
	m := example()
	m.Links, m.Slaves = m.Links[:1], [][2]int{{2, 0}}
	return m
}

// lame is the example with a dead actuator.
func lame(i int) mirror.Mirror {
	m := example()
	m.Actuators[i].Dead = true
	return m
}

// row returns a mirror with actuators in a row, without links.
func row(n int) mirror.Mirror {
	m := mirror.Mirror{Reach: "2", Stroke: "3", Gap: "1"}
	for i := range n {
		m.Actuators = append(m.Actuators, mirror.Actuator{At: at(rat(integer(i)), "0")})
	}
	return m
}

// chain returns a mirror whose actuators are linked in a row.
func chain(n int) mirror.Mirror {
	m := row(n)
	for i := range n - 1 {
		m.Links = append(m.Links, [2]int{i, i + 1})
	}
	return m
}

// star returns a mirror with links from one actuator to all others.
func star(n, middle int) mirror.Mirror {
	m := row(n)
	for i := range n {
		if i != middle {
			m.Links = append(m.Links, [2]int{min(i, middle), max(i, middle)})
		}
	}
	return m
}

// groups are sets of actuators that are connected.
type groups []int

// newGroups returns a group for each actuator.
func newGroups(n int) groups {
	g := make(groups, n)
	for i := range g {
		g[i] = i
	}
	return g
}

// joined reports whether a link joins two groups, and joins them.
func (g groups) joined(link [2]int) bool {
	a, b := g[link[0]], g[link[1]]
	for i := range g {
		if g[i] == b {
			g[i] = a
		}
	}
	return a != b
}

// someMirror returns a mirror with up to so many actuators.
func someMirror(random *rand.Rand, most int) mirror.Mirror {
	n := 1 + random.Intn(most)
	m := mirror.Mirror{}
	for _, k := range random.Perm(25)[:n] {
		place := at(rat(big.NewRat(int64(k%5-2), 2)), rat(big.NewRat(int64(k/5-2), 3)))
		m.Actuators = append(m.Actuators, mirror.Actuator{At: place, Dead: random.Intn(6) == 0})
	}
	length := func() api.Rat { return rat(big.NewRat(int64(1+random.Intn(12)), int64(1+random.Intn(4)))) }
	m.Reach, m.Stroke, m.Gap = length(), length(), length()
	if random.Intn(4) == 0 {
		m.Gap = m.Stroke
	}
	alone := make([]bool, n)
	g := newGroups(n)
	for i := range alone {
		alone[i] = random.Intn(4) == 0
	}
	for range random.Intn(3 * n) {
		a, b := random.Intn(n), random.Intn(n)
		if a < b && !alone[a] && !alone[b] && g.joined([2]int{a, b}) {
			m.Links = append(m.Links, [2]int{a, b})
		}
	}
	for _, i := range random.Perm(n) {
		master := random.Intn(n)
		if alone[i] && !alone[master] && !m.Actuators[i].Dead && !m.Actuators[master].Dead {
			m.Slaves = append(m.Slaves, [2]int{i, master})
		}
	}
	return m
}

// free reports for each actuator whether it is neither dead nor slaved.
func free(m mirror.Mirror) []bool {
	list := make([]bool, len(m.Actuators))
	for i, a := range m.Actuators {
		list[i] = !a.Dead && !slices.ContainsFunc(m.Slaves, func(s [2]int) bool { return s[0] == i })
	}
	return list
}

// someNumbers returns a number for each actuator, some of which are large.
func someNumbers(random *rand.Rand, m mirror.Mirror) []api.Rat {
	factor := integer([...]int{1, 1, 1, 3, 1000}[random.Intn(5)])
	var list []api.Rat
	for range m.Actuators {
		list = append(list, rat(times(factor, small(random))))
	}
	return list
}

// completed returns the command with the numbers of a list for the free actuators.
func completed(m mirror.Mirror, list []api.Rat) []api.Rat {
	all := slices.Clone(list)
	for i, a := range m.Actuators {
		if a.Dead {
			all[i] = "0"
		}
	}
	for _, s := range m.Slaves {
		all[s[0]] = all[s[1]]
	}
	return all
}

// someCommand returns a command within the limits of a mirror that is often at one of them.
func someCommand(random *rand.Rand, m mirror.Mirror) []api.Rat {
	c := values(completed(m, someNumbers(random, m)))
	factor := integer(1)
	limit := func(x *big.Rat, most api.Rat) {
		if x.Sign() != 0 && over(value(most), size(x)).Cmp(factor) < 0 {
			factor = over(value(most), size(x))
		}
	}
	for _, x := range c {
		limit(x, m.Stroke)
	}
	for _, link := range m.Links {
		limit(minus(c[link[0]], c[link[1]]), m.Gap)
	}
	if random.Intn(3) == 0 {
		factor = times(factor, big.NewRat(1, 2))
	}
	for i, x := range c {
		c[i] = times(x, factor)
	}
	return texts(c)
}
