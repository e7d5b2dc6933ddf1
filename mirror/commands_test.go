package mirror_test

import (
	"math/big"
	"math/rand"
	"slices"
	"testing"

	"lenslet/api"
	"lenslet/mirror"
)

// P4.4

func TestExamplesOfLimits(t *testing.T) {
	want(t, "Saturated", saturatedOf(example(), rats("2 1 0")), is(saturated{[]int{0}, []int{0, 1}}))
	want(t, "Blend", both(mirror.Blend(example(), rats("2 1 0"), rats("0 0 0"), "1/2")), is(rats("1 1/2 0")))
	want(t, "Waffle", both(mirror.Waffle(example(), "1/2")), is(rats("1/2 -1/2 1/2")))
}

func TestSaturated(t *testing.T) {
	for _, w := range wrongMirrors() {
		want(t, "Saturated", saturatedOf(w.m, nil), fails[saturated](w.e))
	}
	for _, w := range wrongCommands() {
		want(t, "Saturated", saturatedOf(w.m, w.c), fails[saturated](w.e))
	}
	want(t, "nothing", saturatedOf(example(), rats("199/100 1 1/100")), is(saturated{}))
	want(t, "below 0", saturatedOf(example(), rats("-2 -1 -2")), is(saturated{[]int{0, 2}, []int{0, 1}}))
	want(t, "a dead actuator", saturatedOf(lame(1), rats("1 0 -1")), is(saturated{nil, []int{0, 1}}))
	want(t, "a slave", saturatedOf(slaved(), rats("-2 -1 -2")), is(saturated{[]int{0}, []int{0}}))
	random := rand.New(rand.NewSource(31))
	for range 300 {
		m := someMirror(random, 16)
		c := someCommand(random, m)
		var wanted saturated
		for i, free := range free(m) {
			if free && size(value(c[i])).Cmp(value(m.Stroke)) == 0 {
				wanted.Actuators = append(wanted.Actuators, i)
			}
		}
		for k, link := range m.Links {
			if size(minus(value(c[link[0]]), value(c[link[1]]))).Cmp(value(m.Gap)) == 0 {
				wanted.Links = append(wanted.Links, k)
			}
		}
		want(t, "Saturated", saturatedOf(m, c), is(wanted))
	}
}

func TestBlend(t *testing.T) {
	for _, w := range wrongMirrors() {
		want(t, "Blend", both(mirror.Blend(w.m, nil, nil, "")), fails[[]api.Rat](w.e))
	}
	for _, w := range wrongCommands() {
		want(t, "Blend", both(mirror.Blend(w.m, w.c, nil, "")), fails[[]api.Rat](w.e))
		want(t, "Blend", both(mirror.Blend(w.m, zeros(6), w.c, "2")), fails[[]api.Rat](w.e))
	}
	parts := append(wrongRats(), wrongRat{"-1/" + nines600, api.ErrRange}, wrongRat{"2", api.ErrRange}, wrongRat{nines600 + "/" + nines600[1:] + "8", api.ErrRange})
	for _, w := range parts {
		want(t, "Blend", both(mirror.Blend(example(), zeros(3), zeros(3), w.a)), fails[[]api.Rat](w.e))
	}
	a, b := rats("2 1 0"), rats("-1/2 1/3 2/3")
	want(t, "the part 0", both(mirror.Blend(example(), a, b, "0")), is(a))
	want(t, "the part 1", both(mirror.Blend(example(), a, b, "1")), is(b))
	thin := []api.Rat{"1/" + nines600, "0", "0"}
	want(t, "many digits on the way", both(mirror.Blend(example(), thin, thin, "1/"+power10(599))), is(thin))
	want(t, "too many digits", both(mirror.Blend(example(), thin, zeros(3), "1/2")), fails[[]api.Rat](api.ErrLarge))
	random := rand.New(rand.NewSource(32))
	for range 200 {
		m := someMirror(random, 16)
		a, b := someCommand(random, m), someCommand(random, m)
		part := big.NewRat(int64(random.Intn(8)), 7)
		var blend []api.Rat
		for i := range a {
			blend = append(blend, rat(plus(times(minus(integer(1), part), value(a[i])), times(part, value(b[i])))))
		}
		want(t, "Blend", both(mirror.Blend(m, a, b, rat(part))), is(blend))
	}
}

// square is the mirror of the chapter's fifth example.
func square() mirror.Mirror {
	m := row(4)
	for i, place := range []api.Place{at("0", "0"), at("1", "0"), at("0", "1"), at("1", "1")} {
		m.Actuators[i].At = place
	}
	return m
}

func TestExamplesOfPlanes(t *testing.T) {
	want(t, "Offload", offloadOf(square(), rats("0 1 2 3")), is(rest{zeros(4), mirror.Plane{Piston: "0", Tip: "1", Tilt: "2"}}))
	want(t, "Offload", offloadOf(square(), rats("1 0 0 1")), is(rest{rats("1/2 -1/2 -1/2 1/2"), mirror.Plane{Piston: "1/2", Tip: "0", Tilt: "0"}}))
	want(t, "no single plane", offloadOf(example(), rats("0 1 2")), fails[rest](api.ErrSingular))
	m, e := mirror.Turned(example(), 1)
	want(t, "Turned", both(m.Actuators[1].At, e), is(at("0", "1")))
}

// moments returns the sums over the free actuators of numbers, and of their products with the coordinates.
func moments(m mirror.Mirror, list []api.Rat) [3]api.Rat {
	sums := [3]*big.Rat{new(big.Rat), new(big.Rat), new(big.Rat)}
	for i, free := range free(m) {
		if free {
			x := value(list[i])
			sums[0] = plus(sums[0], x)
			sums[1] = plus(sums[1], times(x, value(m.Actuators[i].At.X)))
			sums[2] = plus(sums[2], times(x, value(m.Actuators[i].At.Y)))
		}
	}
	return [3]api.Rat{rat(sums[0]), rat(sums[1]), rat(sums[2])}
}

// inLine reports whether the places of all free actuators are on one line.
func inLine(m mirror.Mirror) bool {
	var places [][2]*big.Rat
	for i, free := range free(m) {
		if free {
			places = append(places, [2]*big.Rat{value(m.Actuators[i].At.X), value(m.Actuators[i].At.Y)})
		}
	}
	for _, p := range places {
		for _, q := range places {
			first := places[0]
			left := times(minus(p[0], first[0]), minus(q[1], first[1]))
			right := times(minus(p[1], first[1]), minus(q[0], first[0]))
			if left.Cmp(right) != 0 {
				return false
			}
		}
	}
	return true
}

// TestOffload checks that the rests are orthogonal to all planes, by which the sum of their squares is least.
func TestOffload(t *testing.T) {
	random := rand.New(rand.NewSource(33))
	singular := 0
	for range 500 {
		m := someMirror(random, 2+random.Intn(15))
		list := someNumbers(random, m)
		got := offloadOf(m, list)
		if inLine(m) {
			singular++
			want(t, "Offload", got, fails[rest](api.ErrSingular))
			continue
		}
		want(t, "Offload", got.Error, api.OK)
		want(t, "the least sum", moments(m, got.Value.Numbers), [3]api.Rat{"0", "0", "0"})
		for i, a := range m.Actuators {
			height, e := mirror.PlaneAt(got.Value.Plane, a.At)
			want(t, "PlaneAt", e, api.OK)
			want(t, "the rest", got.Value.Numbers[i], rat(minus(value(list[i]), value(height))))
		}
	}
	if singular < 20 || singular > 480 {
		t.Errorf("of 500 mirrors %d have no single plane", singular)
	}
}

func TestOffloadErrors(t *testing.T) {
	for _, w := range wrongMirrors() {
		want(t, "Offload", offloadOf(w.m, nil), fails[rest](w.e))
	}
	for _, w := range wrongNumbers(3) {
		want(t, "Offload", offloadOf(example(), w.list), fails[rest](w.e))
	}
	m := square()
	want(t, "numbers need not be within the limits", offloadOf(m, []api.Rat{nines600, nines600, nines600, nines600}), is(rest{zeros(4), mirror.Plane{Piston: nines600, Tip: "0", Tilt: "0"}}))
	for k, slaves := range [][][2]int{{{3, 0}}, {{3, 0}, {2, 0}}, {{3, 0}, {2, 0}, {1, 0}}} {
		m.Slaves = slaves
		wanted := rest{rats("0 0 0 4"), mirror.Plane{Piston: "0", Tip: "1", Tilt: "2"}}
		if k == 0 {
			want(t, "a slave has a rest", offloadOf(m, rats("0 1 2 7")), is(wanted))
		} else {
			want(t, "too few free actuators", offloadOf(m, rats("0 1 2 7")), fails[rest](api.ErrSingular))
		}
	}
	m = square()
	m.Actuators[0].Dead = true
	want(t, "a dead actuator has a rest", offloadOf(m, rats("9 1 2 3")), is(rest{rats("9 0 0 0"), mirror.Plane{Piston: "0", Tip: "1", Tilt: "2"}}))
	want(t, "the rest alone is too large", offloadOf(m, []api.Rat{nines600, "-1", "-1", "-1"}), fails[rest](api.ErrLarge))
	want(t, "the plane is too large", offloadOf(m, []api.Rat{"0", nines600, nines600, "-" + nines600}), fails[rest](api.ErrLarge))
	for i := range m.Actuators {
		m.Actuators[i].Dead = true
	}
	want(t, "no free actuators", offloadOf(m, zeros(4)), fails[rest](api.ErrSingular))
}

func TestWaffle(t *testing.T) {
	for _, w := range wrongMirrors() {
		want(t, "Waffle", both(mirror.Waffle(w.m, "")), fails[[]api.Rat](w.e))
	}
	for _, w := range wrongRats() {
		want(t, "Waffle", both(mirror.Waffle(example(), w.a)), fails[[]api.Rat](w.e))
	}
	want(t, "across a dead actuator", both(mirror.Waffle(lame(1), "-1")), is(rats("-1 0 -1")))
	want(t, "after a dead actuator", both(mirror.Waffle(lame(0), "1")), is(rats("0 -1 1")))
	want(t, "a slave", both(mirror.Waffle(slaved(), nines600)), is([]api.Rat{nines600, "-" + nines600, nines600}))
	want(t, "no links", both(mirror.Waffle(row(3), "0")), is(zeros(3)))
	m := row(5)
	m.Links, m.Slaves = [][2]int{{2, 4}, {1, 3}, {3, 4}}, [][2]int{{0, 3}}
	want(t, "the least index is at an end", both(mirror.Waffle(m, "1")), is(rats("-1 1 -1 -1 1")))
	random := rand.New(rand.NewSource(34))
	for range 300 {
		m := someMirror(random, 16)
		g, signs := newGroups(len(m.Actuators)), zeros(len(m.Actuators))
		for i := range signs {
			signs[i] = "1"
		}
		for _, link := range m.Links { // the signs of one of two groups are turned so that they fit
			if signs[link[0]] == signs[link[1]] {
				for i, group := range g {
					if group == g[link[1]] {
						signs[i] = rat(opposite(value(signs[i])))
					}
				}
			}
			g.joined(link)
		}
		by := small(random)
		list := make([]api.Rat, len(signs))
		for i, group := range g {
			first := value(signs[slices.Index(g, group)])
			list[i] = rat(times(times(by, first), value(signs[i])))
		}
		want(t, "Waffle", both(mirror.Waffle(m, rat(by))), is(completed(m, list)))
	}
}

func TestTurned(t *testing.T) {
	for _, w := range wrongMirrors() {
		want(t, "Turned", both(mirror.Turned(w.m, 1)), fails[mirror.Mirror](w.e))
	}
	random := rand.New(rand.NewSource(35))
	mirrors := []mirror.Mirror{example(), slaved(), lame(0), row(1)}
	mirrors[3].Actuators[0].At = at("-1/"+nines600, nines600)
	for range 50 {
		mirrors = append(mirrors, someMirror(random, 16))
	}
	for _, m := range mirrors {
		for _, quarters := range []int{0, 1, 2, 3, 4, 5, 7, -1, -2, -3, -4, -9, far, -far, -far - 1} {
			turned := m
			turned.Actuators = nil
			for _, a := range m.Actuators {
				x, y := value(a.At.X), value(a.At.Y)
				place := [4]api.Place{a.At, at(rat(opposite(y)), rat(x)), at(rat(opposite(x)), rat(opposite(y))), at(rat(y), rat(opposite(x)))}
				turned.Actuators = append(turned.Actuators, mirror.Actuator{At: place[quarters&3], Dead: a.Dead})
			}
			want(t, "Turned", both(mirror.Turned(m, quarters)), is(turned))
		}
	}
}
