package mirror_test

import (
	"math/big"
	"math/rand"
	"slices"
	"testing"

	"lenslet/api"
	"lenslet/mirror"
)

// P4.3

// along reports whether a force is 0, or a number is at the limit with the sign of the force.
func along(force, x, limit *big.Rat) bool {
	return force.Sign() == 0 || times(integer(force.Sign()), limit).Cmp(x) == 0
}

// proved reports whether a proof proves that a command within the limits is the nearest one, by the definition.
func proved(m mirror.Mirror, target, c []api.Rat, p mirror.Proof) bool {
	forces, links, x := values(p.Actuators), values(p.Links), values(c)
	rests := values(target)
	for i := range rests {
		rests[i] = minus(minus(rests[i], x[i]), forces[i])
	}
	for k, link := range m.Links {
		a, b := link[0], link[1]
		rests[a], rests[b] = minus(rests[a], links[k]), plus(rests[b], links[k])
		if !along(links[k], minus(x[a], x[b]), value(m.Gap)) {
			return false
		}
	}
	for i, free := range free(m) {
		if free && rests[i].Sign() != 0 || !free && forces[i].Sign() != 0 || !along(forces[i], x[i], value(m.Stroke)) {
			return false
		}
	}
	return true
}

// distance returns the squared distance of two lists, by its definition.
func distance(m mirror.Mirror, a, b []api.Rat) *big.Rat {
	sum := new(big.Rat)
	for i, free := range free(m) {
		if free {
			d := minus(value(a[i]), value(b[i]))
			sum = plus(sum, times(d, d))
		}
	}
	return sum
}

// within reports whether numbers are a command within the limits, by the definition.
func within(m mirror.Mirror, c []*big.Rat) bool {
	for i, free := range free(m) {
		if free && size(c[i]).Cmp(value(m.Stroke)) > 0 || m.Actuators[i].Dead && c[i].Sign() != 0 {
			return false
		}
	}
	for _, link := range m.Links {
		if size(minus(c[link[0]], c[link[1]])).Cmp(value(m.Gap)) > 0 {
			return false
		}
	}
	return true
}

// tight returns the nearest numbers for which certain links have differences of Gap times a sign, and
// the others have no effect.
func tight(m mirror.Mirror, target []*big.Rat, signs []int) []*big.Rat {
	n := len(m.Actuators)
	g, offsets := newGroups(n), make([]*big.Rat, n)
	for i := range offsets {
		offsets[i] = new(big.Rat)
	}
	for k, link := range m.Links {
		if signs[k] == 0 {
			continue
		}
		apart := minus(minus(offsets[link[0]], offsets[link[1]]), times(integer(signs[k]), value(m.Gap)))
		for i, group := range slices.Clone(g) {
			if group == g[link[1]] {
				offsets[i] = plus(offsets[i], apart)
			}
		}
		g.joined(link)
	}
	c := make([]*big.Rat, n)
	for i := range c {
		sum, count := new(big.Rat), 0
		low, high := integer(-1<<50), integer(1<<50)
		for j, group := range g {
			limit := value(m.Stroke)
			if m.Actuators[j].Dead {
				limit = new(big.Rat)
			}
			if group == g[i] {
				sum, count = plus(sum, minus(target[j], offsets[j])), count+1
				low = slices.MaxFunc([]*big.Rat{low, minus(opposite(limit), offsets[j])}, (*big.Rat).Cmp)
				high = slices.MinFunc([]*big.Rat{high, minus(limit, offsets[j])}, (*big.Rat).Cmp)
			}
		}
		shift := over(sum, integer(count))
		shift = slices.MaxFunc([]*big.Rat{shift, low}, (*big.Rat).Cmp)
		c[i] = plus(offsets[i], slices.MinFunc([]*big.Rat{shift, high}, (*big.Rat).Cmp))
	}
	return c
}

// tried returns the nearest command, found by trying for all links whether they are at the gap.
func tried(m mirror.Mirror, target []api.Rat) []api.Rat {
	var best []api.Rat
	signs := make([]int, len(m.Links))
	var try func(k int)
	try = func(k int) {
		if k == len(signs) {
			c := tight(m, values(completed(m, target)), signs)
			if !within(m, c) {
				return
			}
			command := completed(m, texts(c))
			if best == nil || distance(m, target, command).Cmp(distance(m, target, best)) < 0 {
				best = command
			}
			return
		}
		for sign := -1; sign <= 1; sign++ {
			signs[k] = sign
			try(k + 1)
		}
	}
	try(0)
	return best
}

// wantNearest reports a result of Nearest that is not a nearest command with a proof, and returns the command.
func wantNearest(t *testing.T, what string, m mirror.Mirror, target []api.Rat) []api.Rat {
	t.Helper()
	got := nearestOf(m, target)
	c, p := got.Value.Command, got.Value.Proof
	want(t, what+": error", got.Error, api.OK)
	want(t, what+": forces", len(p.Actuators) == len(m.Actuators) && len(p.Links) == len(m.Links), true)
	want(t, what+": a command within the limits", mirror.CheckCommand(m, c), api.OK)
	if t.Failed() {
		t.FailNow()
	}
	want(t, what+": proved", proved(m, target, c, p), true)
	want(t, what+": CheckNearest", mirror.CheckNearest(m, target, c, p), api.OK)
	return c
}

func TestExamplesOfNearest(t *testing.T) {
	m := example()
	want(t, "Nearest", nearestOf(m, rats("2 0 0")), is(nearest{rats("3/2 1/2 0"), mirror.Proof{Actuators: zeros(3), Links: rats("1/2 0")}}))
	want(t, "Far", both(mirror.Far(m, rats("2 0 0"), rats("3/2 1/2 0"))), is[api.Rat]("1/2"))
	want(t, "Nearest", wantNearest(t, "Nearest", m, rats("5 0 0")), rats("2 1 0"))
	want(t, "CheckNearest", mirror.CheckNearest(m, rats("5 0 0"), rats("2 1 0"), mirror.Proof{Actuators: rats("2 0 0"), Links: rats("1 0")}), api.OK)
	want(t, "Clip", both(mirror.Clip(m, rats("5 0 0"))), is(rats("2 0 0")))
	want(t, "with a dead actuator", wantNearest(t, "Nearest", lame(2), rats("2 1 0")), rats("2 1 0"))
	want(t, "with a dead actuator", wantNearest(t, "Nearest", lame(2), rats("2 2 2")), rats("2 1 0"))
}

func TestNearestByTrying(t *testing.T) {
	random := rand.New(rand.NewSource(21))
	for range 1500 {
		m := someMirror(random, 6)
		target := someNumbers(random, m)
		want(t, "Nearest", wantNearest(t, "Nearest", m, target), tried(m, target))
		if t.Failed() {
			t.Fatalf("mirror %v, target %v", m, target)
		}
	}
}

func TestNearestOfLargeMirrors(t *testing.T) {
	random := rand.New(rand.NewSource(22))
	for range 300 {
		m := someMirror(random, 16)
		target := someNumbers(random, m)
		wantNearest(t, "Nearest", m, target)
		if t.Failed() {
			t.Fatalf("mirror %v, target %v", m, target)
		}
	}
}

// TestChainsAndStars has targets of which one or all are far beyond the limits.
func TestChainsAndStars(t *testing.T) {
	random := rand.New(rand.NewSource(23))
	for k := range 32 {
		for _, m := range []mirror.Mirror{chain(16), star(16, k%16), chain(5), star(5, k%5)} {
			n := len(m.Actuators)
			m.Stroke = rat(integer([...]int{1, 3, 9, 100}[k%4]))
			m.Actuators[random.Intn(n)].Dead = k%3 == 0
			target := zeros(n)
			target[k%n] = api.Rat("-1" + string(nines600[:590]))
			wantNearest(t, "one target", m, target)
			for i := range target {
				target[i] = rat(times(value(target[k%n]), small(random)))
			}
			wantNearest(t, "all targets", m, target)
		}
	}
	m := chain(4)
	m.Stroke = "100"
	want(t, "forces through a chain", nearestOf(m, rats("10 0 0 0")), is(nearest{rats("4 3 2 1"), mirror.Proof{Actuators: zeros(4), Links: rats("6 3 1")}}))
	want(t, "forces through a chain", nearestOf(m, rats("0 0 0 -10")), is(nearest{rats("-1 -2 -3 -4"), mirror.Proof{Actuators: zeros(4), Links: rats("1 3 6")}}))
	m = star(4, 1)
	m.Stroke = "100"
	want(t, "forces through a star", nearestOf(m, rats("10 0 0 0")), is(nearest{rats("15/4 11/4 7/4 7/4"), mirror.Proof{Actuators: zeros(4), Links: rats("25/4 7/4 7/4")}}))
}

// TestSeveralProofs has proofs that a program may find as well.
func TestSeveralProofs(t *testing.T) {
	m := lame(0)
	m.Stroke = "1"
	want(t, "Nearest", wantNearest(t, "Nearest", m, rats("0 5 1")), rats("0 1 1"))
	for _, row := range []struct {
		actuators, links string
		e                api.Errno
	}{
		{"0 4 0", "0 0", api.OK},
		{"0 0 0", "-4 0", api.OK},
		{"0 3/2 0", "-5/2 0", api.OK},
		{"0 5 0", "1 0", api.ErrProof},
		{"0 -1 0", "-5 0", api.ErrProof},
		{"1 4 0", "0 0", api.ErrProof},
		{"0 3 1", "0 1", api.ErrProof},
		{"0 3 0", "0 0", api.ErrProof},
		{"0 4 1", "0 0", api.ErrProof},
	} {
		p := mirror.Proof{Actuators: rats(row.actuators), Links: rats(row.links)}
		want(t, "CheckNearest", mirror.CheckNearest(m, rats("0 5 1"), rats("0 1 1"), p), row.e)
	}
}

func TestNearestErrors(t *testing.T) {
	for _, w := range wrongMirrors() {
		want(t, "Nearest", nearestOf(w.m, nil), fails[nearest](w.e))
	}
	for _, w := range wrongNumbers(3) {
		want(t, "Nearest", nearestOf(example(), w.list), fails[nearest](w.e))
	}
	thin, other := "1/"+nines600, "1/"+power10(599)
	want(t, "the command is too large", nearestOf(chain(2), []api.Rat{"3/2", "-" + thin}), fails[nearest](api.ErrLarge))
	third := row(1)
	third.Stroke = "1/3"
	want(t, "a force of an actuator is too large", nearestOf(third, []api.Rat{nines600}), fails[nearest](api.ErrLarge))
	want(t, "a force is not too large", nearestOf(third, []api.Rat{power10(599)}), is(nearest{rats("1/3"), mirror.Proof{Actuators: []api.Rat{api.Rat("2" + string(nines600[:598]) + "9/3")}}}))
	m := lame(0)
	m.Gap = "1/3"
	want(t, "a force of a link is too large", nearestOf(m, []api.Rat{"0", nines600, "1/3"}), fails[nearest](api.ErrLarge))
	for _, target := range [][]api.Rat{{thin, other}, {"1", other}, {"-" + thin, "-1"}} {
		want(t, "many digits within the limits", nearestOf(chain(2), target).Value.Command, target)
	}
	want(t, "unused digits", wantNearest(t, "Nearest", lame(2), []api.Rat{"1", "1/2", nines600}), rats("1 1/2 0"))
}

func TestTargetsWithoutEffect(t *testing.T) {
	random := rand.New(rand.NewSource(24))
	for range 100 {
		m := someMirror(random, 10)
		target := someNumbers(random, m)
		other := slices.Clone(target)
		for i, free := range free(m) {
			if !free {
				other[i] = rat(small(random))
			}
		}
		a, b := nearestOf(m, target), nearestOf(m, other)
		want(t, "Nearest", a.Value.Command, b.Value.Command)
		want(t, "CheckNearest", mirror.CheckNearest(m, other, a.Value.Command, a.Value.Proof), api.OK)
		want(t, "Clip", both(mirror.Clip(m, target)), both(mirror.Clip(m, other)))
		want(t, "Far", both(mirror.Far(m, target, other)), is[api.Rat]("0"))
	}
}

// TestChangedProofs changes one force, or the command.
func TestChangedProofs(t *testing.T) {
	random := rand.New(rand.NewSource(25))
	for range 150 {
		m := someMirror(random, 12)
		target := someNumbers(random, m)
		got := nearestOf(m, target).Value
		for i := range got.Proof.Actuators {
			p := got.Proof
			p.Actuators = slices.Clone(p.Actuators)
			p.Actuators[i] = rat(plus(value(p.Actuators[i]), big.NewRat(int64(2*random.Intn(2)-1), 7)))
			want(t, "one force changed", mirror.CheckNearest(m, target, got.Command, p), api.ErrProof)
		}
		for k := range got.Proof.Links {
			p := got.Proof
			p.Links = slices.Clone(p.Links)
			p.Links[k] = rat(minus(value(p.Links[k]), big.NewRat(int64(2*random.Intn(2)-1), 7)))
			want(t, "one force changed", mirror.CheckNearest(m, target, got.Command, p), api.ErrProof)
		}
		for range 5 {
			c := someCommand(random, m)
			wanted := api.ErrProof
			if slices.Equal(c, got.Command) {
				wanted = api.OK
			}
			want(t, "another command", mirror.CheckNearest(m, target, c, got.Proof), wanted)
		}
	}
}

// TestProofsAtRandom has forces that balance some target, so that the limits alone decide.
func TestProofsAtRandom(t *testing.T) {
	random := rand.New(rand.NewSource(26))
	count := 0
	for range 2000 {
		m := someMirror(random, 4)
		c := someCommand(random, m)
		var p mirror.Proof
		force := func() api.Rat {
			if random.Intn(3) > 0 {
				return "0"
			}
			return rat(small(random))
		}
		target := values(c)
		for i, free := range free(m) {
			p.Actuators = append(p.Actuators, force())
			if free {
				target[i] = plus(target[i], value(p.Actuators[i]))
			}
		}
		for k, link := range m.Links {
			p.Links = append(p.Links, force())
			target[link[0]] = plus(target[link[0]], value(p.Links[k]))
			target[link[1]] = minus(target[link[1]], value(p.Links[k]))
		}
		wanted := api.ErrProof
		if proved(m, texts(target), c, p) {
			wanted, count = api.OK, count+1
		}
		want(t, "CheckNearest", mirror.CheckNearest(m, texts(target), c, p), wanted)
	}
	if count < 100 || count > 1900 {
		t.Errorf("of 2000 proofs %d are right", count)
	}
}

// proof is a proof for the example with its first error.
type proof struct {
	p mirror.Proof
	e api.Errno
}

// wrongProofs are proofs of a wrong form.
func wrongProofs() []proof {
	list := []proof{{mirror.Proof{}, api.ErrShape}}
	for _, w := range wrongNumbers(3) {
		list = append(list, proof{mirror.Proof{Actuators: w.list, Links: []api.Rat{"", ""}}, w.e})
		if w.e != api.ErrShape {
			list = append(list, proof{mirror.Proof{Actuators: w.list}, api.ErrShape})
		}
	}
	for _, w := range wrongNumbers(2) {
		list = append(list, proof{mirror.Proof{Actuators: zeros(3), Links: w.list}, w.e})
	}
	return list
}

func TestCheckNearestErrors(t *testing.T) {
	for _, w := range wrongMirrors() {
		want(t, "a mirror", mirror.CheckNearest(w.m, nil, nil, mirror.Proof{}), w.e)
	}
	for _, w := range wrongNumbers(3) {
		want(t, "a target", mirror.CheckNearest(example(), w.list, nil, mirror.Proof{}), w.e)
	}
	for _, w := range wrongCommands() {
		want(t, "a command", mirror.CheckNearest(w.m, zeros(6), w.c, mirror.Proof{}), w.e)
	}
	for _, w := range wrongProofs() {
		want(t, "a proof", mirror.CheckNearest(example(), rats("9 9 9"), zeros(3), w.p), w.e)
	}
	none := mirror.Proof{Actuators: zeros(3), Links: zeros(2)}
	want(t, "a command beyond the limits", mirror.CheckNearest(example(), rats("3 3 3"), rats("3 3 3"), none), api.ErrRange)
	want(t, "a command beyond the gap", mirror.CheckNearest(example(), rats("2 0 0"), rats("2 0 0"), none), api.ErrConflict)
	want(t, "not the nearest command", mirror.CheckNearest(example(), rats("1 0 0"), zeros(3), none), api.ErrProof)
	want(t, "the target itself", mirror.CheckNearest(example(), rats("2 1 0"), rats("2 1 0"), none), api.OK)
	deep := mirror.Proof{Actuators: zeros(3), Links: []api.Rat{nines600, nines600}}
	want(t, "many digits on the way", mirror.CheckNearest(example(), []api.Rat{api.Rat("1" + string(nines600[:598])), "0", "0"}, rats("2 1 0"), deep), api.ErrProof)
}

func TestClip(t *testing.T) {
	for _, w := range wrongMirrors() {
		want(t, "Clip", both(mirror.Clip(w.m, nil)), fails[[]api.Rat](w.e))
	}
	for _, w := range wrongNumbers(3) {
		want(t, "Clip", both(mirror.Clip(example(), w.list)), fails[[]api.Rat](w.e))
	}
	want(t, "Clip", both(mirror.Clip(example(), []api.Rat{"-" + nines600, "2", "201/100"})), is(rats("-2 2 2")))
	want(t, "Clip with a slave", both(mirror.Clip(slaved(), rats("-3 1/2 1"))), is(rats("-2 1/2 -2")))
	want(t, "Clip with a dead actuator", both(mirror.Clip(lame(1), rats("-2 1/2 3/2"))), is(rats("-2 0 3/2")))
	random := rand.New(rand.NewSource(27))
	for range 200 {
		m := someMirror(random, 16)
		target := values(someNumbers(random, m))
		clipped := texts(target)
		for i, x := range target {
			if size(x).Cmp(value(m.Stroke)) > 0 {
				clipped[i] = rat(times(integer(x.Sign()), value(m.Stroke)))
			}
		}
		want(t, "Clip", both(mirror.Clip(m, texts(target))), is(completed(m, clipped)))
	}
}

func TestFar(t *testing.T) {
	for _, w := range wrongMirrors() {
		want(t, "Far", both(mirror.Far(w.m, nil, nil)), fails[api.Rat](w.e))
	}
	for _, w := range wrongNumbers(3) {
		want(t, "Far", both(mirror.Far(example(), w.list, nil)), fails[api.Rat](w.e))
		want(t, "Far", both(mirror.Far(example(), rats("1 2 3"), w.list)), fails[api.Rat](w.e))
	}
	want(t, "Far", both(mirror.Far(example(), rats("1 2 3"), rats("3 -1 1/2"))), is[api.Rat]("77/4"))
	want(t, "Far with a slave", both(mirror.Far(slaved(), rats("1 2 3"), rats("3 -1 1/2"))), is[api.Rat]("13"))
	want(t, "Far with a dead actuator", both(mirror.Far(lame(0), rats("1 2 3"), rats("3 -1 1/2"))), is[api.Rat]("61/4"))
	large := []api.Rat{nines600, "1", "1"}
	want(t, "the same numbers", both(mirror.Far(example(), large, large)), is[api.Rat]("0"))
	want(t, "too far", both(mirror.Far(example(), large, zeros(3))), fails[api.Rat](api.ErrLarge))
	want(t, "too far, but dead", both(mirror.Far(lame(0), large, zeros(3))), is[api.Rat]("2"))
	random := rand.New(rand.NewSource(28))
	for range 200 {
		m := someMirror(random, 16)
		a, b := someNumbers(random, m), someNumbers(random, m)
		want(t, "Far", both(mirror.Far(m, a, b)), is(rat(distance(m, a, b))))
	}
}
