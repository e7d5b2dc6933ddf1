package mirror_test

import (
	"math/big"
	"math/rand"
	"slices"
	"testing"

	"lenslet/api"
	"lenslet/mirror"
)

// P4.2

// influence returns the influence of an actuator at a place, by its definition.
func influence(m mirror.Mirror, i int, where api.Place) *big.Rat {
	x := minus(value(m.Actuators[i].At.X), value(where.X))
	y := minus(value(m.Actuators[i].At.Y), value(where.Y))
	d := plus(times(x, x), times(y, y))
	if d.Cmp(value(m.Reach)) >= 0 {
		return new(big.Rat)
	}
	height := minus(integer(1), over(d, value(m.Reach)))
	return times(height, height)
}

// somePlaces returns places, many of which are near actuators.
func somePlaces(random *rand.Rand, n int) []api.Place {
	var list []api.Place
	for range n {
		list = append(list, at(rat(big.NewRat(int64(random.Intn(9)-4), 3)), rat(big.NewRat(int64(random.Intn(9)-4), 4))))
	}
	return list
}

func TestExamplesOfSurfaces(t *testing.T) {
	m := example()
	want(t, "Influence", both(mirror.Influence(m, 0, at("1", "0"))), is[api.Rat]("9/16"))
	want(t, "at the reach", both(mirror.Influence(m, 0, at("2", "0"))), is[api.Rat]("0"))
	want(t, "Surface", both(mirror.Surface(m, rats("1 0 -1"), []api.Place{at("1", "0"), at("0", "0")})), is(rats("0 1")))
	want(t, "Matrix", both(mirror.Matrix(slaved(), []api.Place{at("1", "0")})), is([][]api.Rat{rats("9/8 1")}))
}

func TestInfluence(t *testing.T) {
	for _, w := range wrongMirrors() {
		want(t, "Influence", both(mirror.Influence(w.m, -1, api.Place{})), fails[api.Rat](w.e))
	}
	for _, i := range []int{-1, 3, far, -far - 1} {
		want(t, "Influence", both(mirror.Influence(example(), i, api.Place{})), fails[api.Rat](api.ErrUnknown))
	}
	for _, w := range wrongPlaces() {
		want(t, "Influence", both(mirror.Influence(example(), 2, w.at)), fails[api.Rat](w.e))
	}
	want(t, "at its own place", both(mirror.Influence(example(), 1, at("1", "0"))), is[api.Rat]("1"))
	want(t, "of a dead actuator", both(mirror.Influence(lame(1), 1, at("0", "0"))), is[api.Rat]("9/16"))
	want(t, "of a slave", both(mirror.Influence(slaved(), 2, at("1", "0"))), is[api.Rat]("9/16"))
	want(t, "near the reach", both(mirror.Influence(example(), 0, at("199/100", "0"))), is[api.Rat]("159201/1600000000"))
	want(t, "beyond the reach", both(mirror.Influence(example(), 0, at("2", "1/"+nines600))), is[api.Rat]("0"))
	want(t, "far beyond the reach", both(mirror.Influence(example(), 0, at("-"+nines600, nines600))), is[api.Rat]("0"))
	want(t, "too many digits", both(mirror.Influence(example(), 0, at("1/"+power10(200), "0"))), fails[api.Rat](api.ErrLarge))
	random := rand.New(rand.NewSource(11))
	for range 200 {
		m := someMirror(random, 16)
		for _, where := range somePlaces(random, 5) {
			for i := range m.Actuators {
				want(t, "Influence", both(mirror.Influence(m, i, where)), is(rat(influence(m, i, where))))
			}
		}
	}
}

func TestMatrix(t *testing.T) {
	for _, w := range wrongMirrors() {
		want(t, "Matrix", both(mirror.Matrix(w.m, make([]api.Place, 257))), fails[[][]api.Rat](w.e))
	}
	for _, w := range wrongPlaceLists() {
		want(t, "Matrix", both(mirror.Matrix(example(), w.at)), fails[[][]api.Rat](w.e))
	}
	want(t, "no places", both(mirror.Matrix(example(), nil)), is[[][]api.Rat](nil))
	dead := lame(0)
	dead.Actuators[1].Dead, dead.Actuators[2].Dead = true, true
	want(t, "no free actuators", both(mirror.Matrix(dead, []api.Place{at("0", "0"), at("1", "0")})), is([][]api.Rat{nil, nil}))
	want(t, "too many digits", both(mirror.Matrix(example(), []api.Place{at("0", "0"), at("0", "1/"+power10(200))})), fails[[][]api.Rat](api.ErrLarge))
	dead.Actuators[0].Dead = false
	want(t, "many digits of a dead actuator", both(mirror.Matrix(dead, []api.Place{at("-2", "1/"+power10(100))})), is([][]api.Rat{{"0"}}))
	most := slices.Repeat([]api.Place{at("0", "0")}, mirror.MaxPlaces)
	want(t, "the most places", both(mirror.Matrix(row(1), most)), is(slices.Repeat([][]api.Rat{{"1"}}, mirror.MaxPlaces)))
	random := rand.New(rand.NewSource(12))
	for range 100 {
		m := someMirror(random, 16)
		places := somePlaces(random, 6)
		var rows [][]api.Rat
		for _, where := range places {
			var row []api.Rat
			for i, free := range free(m) {
				sum := influence(m, i, where)
				for _, s := range m.Slaves {
					if s[1] == i {
						sum = plus(sum, influence(m, s[0], where))
					}
				}
				if free {
					row = append(row, rat(sum))
				}
			}
			rows = append(rows, row)
		}
		want(t, "Matrix", both(mirror.Matrix(m, places)), is(rows))
	}
}

// surface returns the surface of a command, by its definition.
func surface(m mirror.Mirror, c []api.Rat, where api.Place) *big.Rat {
	sum := new(big.Rat)
	for i, x := range values(c) {
		sum = plus(sum, times(x, influence(m, i, where)))
	}
	return sum
}

func TestSurface(t *testing.T) {
	for _, w := range wrongMirrors() {
		want(t, "Surface", both(mirror.Surface(w.m, nil, make([]api.Place, 257))), fails[[]api.Rat](w.e))
	}
	for _, w := range wrongCommands() {
		want(t, "Surface", both(mirror.Surface(w.m, w.c, make([]api.Place, 257))), fails[[]api.Rat](w.e))
	}
	for _, w := range wrongPlaceLists() {
		want(t, "Surface", both(mirror.Surface(example(), zeros(3), w.at)), fails[[]api.Rat](w.e))
	}
	want(t, "no places", both(mirror.Surface(example(), zeros(3), nil)), is[[]api.Rat](nil))
	most := slices.Repeat([]api.Place{at("1", "0")}, mirror.MaxPlaces)
	want(t, "the most places", both(mirror.Surface(example(), rats("1/2 1 1/2"), most)), is(slices.Repeat(rats("25/16"), mirror.MaxPlaces)))
	thin := "1/" + power10(200)
	want(t, "too many digits", both(mirror.Surface(example(), rats("1 0 0"), []api.Place{at("1", "0"), at("1", thin)})), fails[[]api.Rat](api.ErrLarge))
	want(t, "many digits on the way", both(mirror.Surface(example(), rats("1 0 -1"), []api.Place{at("1", thin)})), is(rats("0")))
	random := rand.New(rand.NewSource(13))
	for range 150 {
		m := someMirror(random, 16)
		c := someCommand(random, m)
		places := somePlaces(random, 8)
		var heights []api.Rat
		for _, where := range places {
			heights = append(heights, rat(surface(m, c, where)))
		}
		want(t, "Surface", both(mirror.Surface(m, c, places)), is(heights))
	}
}

func TestPlaneAt(t *testing.T) {
	for _, w := range wrongRats() {
		want(t, "Piston", both(mirror.PlaneAt(mirror.Plane{Piston: w.a}, api.Place{})), fails[api.Rat](w.e))
		want(t, "Tip", both(mirror.PlaneAt(mirror.Plane{Piston: "1", Tip: w.a}, api.Place{})), fails[api.Rat](w.e))
		want(t, "Tilt", both(mirror.PlaneAt(mirror.Plane{Piston: "1", Tip: "2/3", Tilt: w.a}, api.Place{})), fails[api.Rat](w.e))
	}
	for _, w := range wrongPlaces() {
		want(t, "PlaneAt", both(mirror.PlaneAt(mirror.Plane{Piston: "0", Tip: "0", Tilt: "0"}, w.at)), fails[api.Rat](w.e))
	}
	want(t, "PlaneAt", both(mirror.PlaneAt(mirror.Plane{Piston: "1/2", Tip: "2", Tilt: "-3"}, at("1/4", "2/3"))), is[api.Rat]("-1"))
	steep := mirror.Plane{Piston: "7", Tip: nines600, Tilt: "-" + nines600}
	want(t, "many digits on the way", both(mirror.PlaneAt(steep, at("1/7", "1/7"))), is[api.Rat]("7"))
	want(t, "too many digits", both(mirror.PlaneAt(steep, at("2", "0"))), fails[api.Rat](api.ErrLarge))
	random := rand.New(rand.NewSource(14))
	for range 300 {
		piston, tip, tilt, x, y := small(random), small(random), small(random), small(random), small(random)
		wanted := plus(piston, plus(times(tip, x), times(tilt, y)))
		got := both(mirror.PlaneAt(mirror.Plane{Piston: rat(piston), Tip: rat(tip), Tilt: rat(tilt)}, at(rat(x), rat(y))))
		want(t, "PlaneAt", got, is(rat(wanted)))
	}
}
