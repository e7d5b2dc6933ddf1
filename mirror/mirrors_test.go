package mirror_test

import (
	"math/rand"
	"slices"
	"testing"

	"lenslet/api"
	"lenslet/mirror"
)

// P4.1

// wrongMirror is a mirror with its first error.
type wrongMirror struct {
	m mirror.Mirror
	e api.Errno
}

// allWrong is a mirror of which every part is wrong.
func allWrong() mirror.Mirror {
	return mirror.Mirror{Links: make([][2]int, 16), Slaves: make([][2]int, 17)}
}

// wrongActuators are mirrors with a wrong actuator, and with errors in all that comes later.
func wrongActuators() []wrongMirror {
	var list []wrongMirror
	add := func(e api.Errno, actuators ...mirror.Actuator) {
		m := allWrong()
		m.Actuators = actuators
		list = append(list, wrongMirror{m, e})
	}
	add(api.ErrEmpty)
	add(api.ErrMany, make([]mirror.Actuator, 17)...)
	good, none := mirror.Actuator{At: at("1", "1/2")}, mirror.Actuator{}
	for _, w := range wrongPlaces() {
		add(w.e, mirror.Actuator{At: w.at}, none)
		add(w.e, good, mirror.Actuator{At: w.at, Dead: true}, good)
	}
	add(api.ErrTwice, good, mirror.Actuator{At: at("1/2", "1")}, mirror.Actuator{At: good.At, Dead: true}, none)
	return list
}

// wrongLengths are mirrors with a wrong length, and with errors in all that comes later.
func wrongLengths() []wrongMirror {
	lengths := append(wrongRats(), wrongRat{"0", api.ErrRange}, wrongRat{"-1", api.ErrRange}, wrongRat{"-1/" + nines600, api.ErrRange})
	var list []wrongMirror
	for _, w := range lengths {
		reach, stroke, gap := allWrong(), allWrong(), allWrong()
		for _, m := range []*mirror.Mirror{&reach, &stroke, &gap} {
			m.Actuators = example().Actuators
		}
		reach.Reach, reach.Stroke = w.a, "-1"
		stroke.Reach, stroke.Stroke = "1", w.a
		gap.Reach, gap.Stroke, gap.Gap = "1", "1", w.a
		list = append(list, wrongMirror{reach, w.e}, wrongMirror{stroke, w.e}, wrongMirror{gap, w.e})
	}
	return list
}

// wrongLinks are mirrors with a wrong link, and with wrong slaves.
func wrongLinks() []wrongMirror {
	var list []wrongMirror
	add := func(e api.Errno, links ...[2]int) {
		m := row(4)
		m.Links, m.Slaves = links, make([][2]int, 17)
		list = append(list, wrongMirror{m, e})
	}
	add(api.ErrMany, make([][2]int, 16)...)
	for _, i := range []int{-1, 4, far, -far - 1} {
		add(api.ErrUnknown, [2]int{i, 0})
		add(api.ErrUnknown, [2]int{0, i})
		add(api.ErrUnknown, [2]int{0, 1}, [2]int{i, i})
		add(api.ErrUnknown, [2]int{0, 1}, [2]int{0, i}, [2]int{0, 1})
	}
	add(api.ErrOrder, [2]int{1, 1}, [2]int{-1, 0})
	add(api.ErrOrder, [2]int{0, 1}, [2]int{1, 0})
	add(api.ErrOrder, [2]int{3, 2})
	add(api.ErrRule, [2]int{0, 1}, [2]int{0, 1}, [2]int{1, 0})
	add(api.ErrRule, [2]int{0, 1}, [2]int{1, 2}, [2]int{0, 2})
	add(api.ErrRule, [2]int{2, 3}, [2]int{0, 1}, [2]int{1, 2}, [2]int{0, 3}, [2]int{9, 9})
	add(api.ErrRule, [2]int{0, 3}, [2]int{1, 3}, [2]int{1, 2}, [2]int{0, 2})
	add(api.ErrMany, [2]int{0, 1}, [2]int{1, 2}, [2]int{2, 3})
	return list
}

// wrongSlaves are mirrors with wrong slaves: actuator 4 is dead, 0 and 1 are linked.
func wrongSlaves() []wrongMirror {
	var list []wrongMirror
	add := func(e api.Errno, slaves ...[2]int) {
		m := row(6)
		m.Actuators[4].Dead = true
		m.Links, m.Slaves = [][2]int{{0, 1}}, slaves
		list = append(list, wrongMirror{m, e})
	}
	add(api.ErrMany, make([][2]int, 17)...)
	add(api.ErrRule, make([][2]int, 16)...)
	for _, i := range []int{-1, 6, far, -far - 1} {
		add(api.ErrUnknown, [2]int{i, 4})
		add(api.ErrUnknown, [2]int{4, i})
		add(api.ErrUnknown, [2]int{2, 0}, [2]int{2, i})
	}
	add(api.ErrTwice, [2]int{2, 0}, [2]int{2, 1}, [2]int{-1, 0})
	add(api.ErrTwice, [2]int{2, 0}, [2]int{2, 4})
	add(api.ErrTwice, [2]int{2, 0}, [2]int{2, 2})
	add(api.ErrDead, [2]int{4, 0})
	add(api.ErrDead, [2]int{4, 4})
	add(api.ErrDead, [2]int{2, 4}, [2]int{4, 2})
	add(api.ErrDead, [2]int{0, 4})
	add(api.ErrDead, [2]int{5, 0}, [2]int{2, 4}, [2]int{2, 0})
	add(api.ErrRule, [2]int{2, 2})
	add(api.ErrRule, [2]int{2, 3}, [2]int{3, 0})
	add(api.ErrRule, [2]int{3, 0}, [2]int{2, 3}, [2]int{3, 0})
	add(api.ErrRule, [2]int{2, 3}, [2]int{3, 2})
	add(api.ErrRule, [2]int{2, 3}, [2]int{-1, 0}, [2]int{3, 0})
	add(api.ErrRule, [2]int{0, 2})
	add(api.ErrRule, [2]int{3, 2}, [2]int{1, 2}, [2]int{2, 4})
	return list
}

// wrongMirrors are mirrors with all errors.
func wrongMirrors() []wrongMirror {
	return slices.Concat(wrongActuators(), wrongLengths(), wrongLinks(), wrongSlaves())
}

func TestCheckMirror(t *testing.T) {
	for _, w := range wrongMirrors() {
		want(t, "CheckMirror", mirror.CheckMirror(w.m), w.e)
	}
	many := row(16)
	for i := range 15 {
		many.Slaves = append(many.Slaves, [2]int{i + 1, 0})
	}
	large := row(1)
	large.Reach, large.Stroke, large.Gap = nines600, "1/"+nines600, nines600
	large.Actuators[0].At = at("-"+nines600, "1/"+nines600)
	for _, m := range []mirror.Mirror{example(), slaved(), lame(0), lame(1), lame(2), row(1), row(16), chain(16), star(16, 0), star(16, 7), star(16, 15), many, large} {
		want(t, "CheckMirror", mirror.CheckMirror(m), api.OK)
	}
	random := rand.New(rand.NewSource(1))
	for range 300 {
		want(t, "CheckMirror", mirror.CheckMirror(someMirror(random, 16)), api.OK)
	}
}

// TestCycles adds links at random, as long as the groups of actuators say that there is no cycle.
func TestCycles(t *testing.T) {
	random := rand.New(rand.NewSource(2))
	for range 300 {
		m := row(2 + random.Intn(15))
		g := newGroups(len(m.Actuators))
		for range 40 {
			a, b := random.Intn(len(g)), random.Intn(len(g))
			if a >= b {
				continue
			}
			joined := g.joined([2]int{a, b})
			more := m
			more.Links = append(slices.Clone(m.Links), [2]int{a, b})
			wanted := api.OK
			if len(more.Links) > mirror.MaxLinks {
				wanted = api.ErrMany
			} else if !joined {
				wanted = api.ErrRule
			}
			want(t, "CheckMirror", mirror.CheckMirror(more), wanted)
			if joined {
				m = more
			}
		}
	}
}

// command is a command of a mirror with its first error.
type command struct {
	m mirror.Mirror
	c []api.Rat
	e api.Errno
}

// wrongCommands are commands with all errors: actuator 5 is dead, 4 a slave of 0, and 0 to 3 are a chain.
func wrongCommands() []command {
	m := chain(6)
	m.Links, m.Slaves = append(m.Links[:3], [2]int{3, 5}), [][2]int{{4, 0}}
	m.Actuators[5].Dead = true
	var list []command
	add := func(e api.Errno, c string) { list = append(list, command{m, rats(c), e}) }
	for _, w := range wrongNumbers(6) {
		list = append(list, command{m, w.list, w.e})
	}
	add(api.ErrDead, "9 0 9 0 0 1")
	add(api.ErrDead, "0 0 0 0 0 -1/"+string(nines600))
	add(api.ErrRule, "9 0 9 0 0 0")
	add(api.ErrRule, "0 0 0 0 1/2 0")
	add(api.ErrRange, "4 0 4 0 4 0")
	add(api.ErrRange, "0 0 0 -4 0 0")
	add(api.ErrRange, "301/100 3 2 1 301/100 0")
	add(api.ErrRange, "-301/100 -3 -2 -1 -301/100 0")
	add(api.ErrConflict, "3 1 1 1 3 0")
	add(api.ErrConflict, "1 3 2 1 1 0")
	add(api.ErrConflict, "0 0 0 -101/100 0 0")
	add(api.ErrConflict, "0 0 0 101/100 0 0")
	return list
}

func TestCheckCommand(t *testing.T) {
	for _, w := range wrongCommands() {
		want(t, "CheckCommand", mirror.CheckCommand(w.m, w.c), w.e)
	}
	for _, w := range wrongMirrors() {
		want(t, "CheckCommand", mirror.CheckCommand(w.m, nil), w.e)
		want(t, "CheckCommand", mirror.CheckCommand(w.m, make([]api.Rat, len(w.m.Actuators))), w.e)
	}
	m := wrongCommands()[0].m
	for _, c := range []string{"0 0 0 0 0 0", "3 3 2 1 3 0", "3 2 1 0 3 0", "-3 -2 -1 -1 -3 0", "0 1/2 -1/2 1/2 0 0"} {
		want(t, "CheckCommand", mirror.CheckCommand(m, rats(c)), api.OK)
	}
	random := rand.New(rand.NewSource(3))
	for range 200 {
		m := someMirror(random, 16)
		want(t, "CheckCommand", mirror.CheckCommand(m, someCommand(random, m)), api.OK)
	}
}

func TestExamplesOfCommands(t *testing.T) {
	want(t, "within the limits", mirror.CheckCommand(example(), rats("1 0 -1")), api.OK)
	want(t, "too far apart", mirror.CheckCommand(example(), rats("2 1 -1/2")), api.ErrConflict)
	want(t, "beyond the stroke", mirror.CheckCommand(example(), rats("3 2 1")), api.ErrRange)
	want(t, "beyond neither", mirror.CheckCommand(example(), rats("2 1 0")), api.OK)
	want(t, "Poke", both(mirror.Poke(slaved(), 0, "1")), is(rats("1 0 1")))
}

func TestFree(t *testing.T) {
	for _, w := range wrongMirrors() {
		want(t, "Free", both(mirror.Free(w.m)), fails[[]int](w.e))
	}
	want(t, "Free", both(mirror.Free(example())), is([]int{0, 1, 2}))
	want(t, "Free", both(mirror.Free(lame(1))), is([]int{0, 2}))
	want(t, "Free", both(mirror.Free(slaved())), is([]int{0, 1}))
	dead := row(2)
	dead.Actuators[0].Dead, dead.Actuators[1].Dead = true, true
	want(t, "Free", both(mirror.Free(dead)), is[[]int](nil))
	random := rand.New(rand.NewSource(4))
	for range 200 {
		m := someMirror(random, 16)
		var list []int
		for i, free := range free(m) {
			if free {
				list = append(list, i)
			}
		}
		want(t, "Free", both(mirror.Free(m)), is(list))
	}
}

func TestExpand(t *testing.T) {
	for _, w := range wrongMirrors() {
		want(t, "Expand", both(mirror.Expand(w.m, nil)), fails[[]api.Rat](w.e))
	}
	for _, w := range wrongNumbers(2) {
		want(t, "Expand", both(mirror.Expand(slaved(), w.list)), fails[[]api.Rat](w.e))
		want(t, "Expand", both(mirror.Expand(lame(1), w.list)), fails[[]api.Rat](w.e))
	}
	want(t, "Expand", both(mirror.Expand(slaved(), rats("5 -7/2"))), is(rats("5 -7/2 5")))
	want(t, "Expand", both(mirror.Expand(lame(1), rats("5 -7/2"))), is(rats("5 0 -7/2")))
	want(t, "Expand", both(mirror.Expand(row(1), []api.Rat{nines600})), is([]api.Rat{nines600}))
	random := rand.New(rand.NewSource(5))
	for range 200 {
		m := someMirror(random, 16)
		list := someNumbers(random, m)
		var some []api.Rat
		for i, free := range free(m) {
			if free {
				some = append(some, list[i])
			}
		}
		want(t, "Expand", both(mirror.Expand(m, some)), is(completed(m, list)))
	}
}

func TestPoke(t *testing.T) {
	for _, w := range wrongMirrors() {
		want(t, "Poke", both(mirror.Poke(w.m, -1, "")), fails[[]api.Rat](w.e))
	}
	for _, i := range []int{-1, 3, far, -far - 1} {
		want(t, "Poke", both(mirror.Poke(example(), i, "")), fails[[]api.Rat](api.ErrUnknown))
	}
	for _, w := range wrongRats() {
		want(t, "Poke", both(mirror.Poke(lame(1), 1, w.a)), fails[[]api.Rat](w.e))
		want(t, "Poke", both(mirror.Poke(slaved(), 2, w.a)), fails[[]api.Rat](w.e))
	}
	want(t, "a dead actuator", both(mirror.Poke(lame(1), 1, "0")), fails[[]api.Rat](api.ErrDead))
	want(t, "a slave", both(mirror.Poke(slaved(), 2, "0")), fails[[]api.Rat](api.ErrRule))
	want(t, "beyond the limits", both(mirror.Poke(lame(1), 2, "-"+nines600)), is([]api.Rat{"0", "0", "-" + nines600}))
	random := rand.New(rand.NewSource(6))
	for range 200 {
		m := someMirror(random, 16)
		for i, free := range free(m) {
			if free {
				list := zeros(len(m.Actuators))
				list[i] = rat(small(random))
				want(t, "Poke", both(mirror.Poke(m, i, list[i])), is(completed(m, list)))
			}
		}
	}
}
