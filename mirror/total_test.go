package mirror_test

import (
	"math/rand"
	"reflect"
	"slices"
	"testing"

	"lenslet/api"
	"lenslet/mirror"
)

// P1 of DOC.md: each function has a result for all arguments, and together with an error the other
// results are their zero values.

// zeroBeside reports a result beside an error that is not its zero value.
func zeroBeside[T any](t *testing.T, what string, r result[T]) {
	t.Helper()
	if r.Error != api.OK && !reflect.ValueOf(r.Value).IsZero() {
		t.Errorf("%s: %v beside the error %v", what, r.Value, r.Error)
	}
}

// oddMirrors are mirrors of any form.
func oddMirrors() []mirror.Mirror {
	list := []mirror.Mirror{{}, example(), slaved(), lame(0), lame(1), chain(16), star(16, 3), row(16), square()}
	for k, w := range wrongMirrors() {
		if k%5 == 0 {
			list = append(list, w.m)
		}
	}
	random := rand.New(rand.NewSource(51))
	for range 10 {
		list = append(list, someMirror(random, 16))
	}
	return list
}

// oddLists are lists of numbers of any form, also for a mirror.
func oddLists(random *rand.Rand, m mirror.Mirror) [][]api.Rat {
	n := len(m.Actuators)
	list := [][]api.Rat{nil, zeros(n), slices.Repeat([]api.Rat{nines600}, n), slices.Repeat([]api.Rat{"1/" + nines600}, n), slices.Repeat([]api.Rat{digits601}, n), make([]api.Rat, n), zeros(n + 1)}
	if mirror.CheckMirror(m) == api.OK {
		list = append(list, someNumbers(random, m), someCommand(random, m))
		mixed := someNumbers(random, m)
		for i := 0; i < n; i += 2 {
			mixed[i] = nines600
		}
		list = append(list, mixed)
	}
	return list
}

func TestTotal(t *testing.T) {
	random := rand.New(rand.NewSource(52))
	numbers := []api.Rat{"", "-1", "0", "1/2", "1", nines600, "-1/" + nines600, digits601}
	places := [][]api.Place{nil, {{}}, {at("0", "1/2")}, {at(nines600, "1/"+nines600)}, make([]api.Place, 257)}
	for _, m := range oddMirrors() {
		zeroBeside(t, "Free", both(mirror.Free(m)))
		for _, i := range []int{-far - 1, -1, 0, 1, 15, 16, far} {
			zeroBeside(t, "Turned", both(mirror.Turned(m, i)))
			for _, a := range numbers {
				zeroBeside(t, "Poke", both(mirror.Poke(m, i, a)))
				zeroBeside(t, "Influence", both(mirror.Influence(m, i, at(a, "1/3"))))
				zeroBeside(t, "Influence", both(mirror.Influence(m, i, at("0", a))))
			}
		}
		for _, at := range places {
			zeroBeside(t, "Matrix", both(mirror.Matrix(m, at)))
		}
		for _, a := range numbers {
			zeroBeside(t, "Waffle", both(mirror.Waffle(m, a)))
		}
		lists := oddLists(random, m)
		for _, a := range lists {
			zeroBeside(t, "Expand", both(mirror.Expand(m, a)))
			zeroBeside(t, "Clip", both(mirror.Clip(m, a)))
			zeroBeside(t, "Nearest", nearestOf(m, a))
			zeroBeside(t, "Saturated", saturatedOf(m, a))
			zeroBeside(t, "Offload", offloadOf(m, a))
			for _, at := range places {
				zeroBeside(t, "Surface", both(mirror.Surface(m, a, at)))
			}
			for k, b := range lists {
				zeroBeside(t, "Far", both(mirror.Far(m, a, b)))
				zeroBeside(t, "Blend", both(mirror.Blend(m, a, b, numbers[k%len(numbers)])))
				mirror.CheckNearest(m, a, b, mirror.Proof{Actuators: a, Links: b})
				mirror.CheckNearest(m, a, zeros(len(m.Actuators)), mirror.Proof{Actuators: b, Links: zeros(len(m.Links))})
			}
		}
	}
	for _, a := range numbers {
		for _, b := range numbers {
			zeroBeside(t, "PlaneAt", both(mirror.PlaneAt(mirror.Plane{Piston: a, Tip: b, Tilt: a}, at(b, a))))
		}
	}
}

// TestArgumentsAreKept changes results and looks whether arguments or other results change.
func TestArgumentsAreKept(t *testing.T) {
	kept := func() mirror.Mirror {
		m := chain(5)
		m.Links, m.Slaves = m.Links[:2], [][2]int{{3, 0}}
		m.Actuators[4].Dead = true
		return m
	}
	m, target, places := kept(), rats("9 -1/2 0 4 5"), []api.Place{at("0", "0"), at("1/2", "0")}
	spoil := func(list []api.Rat) {
		for i := range list {
			list[i] = "?"
		}
		_ = append(list, "?")
	}
	c, p, e := mirror.Nearest(m, target)
	want(t, "Nearest", e, api.OK)
	again := slices.Clone(c)
	clipped, _ := mirror.Clip(m, target)
	spoil(clipped)
	offloaded, _, _ := mirror.Offload(row(5), target)
	spoil(offloaded)
	blend, _ := mirror.Blend(m, c, c, "0")
	spoil(blend)
	surface, _ := mirror.Surface(m, c, places)
	spoil(surface)
	mirror.CheckNearest(m, target, c, p)
	want(t, "a command", c, again)
	matrix, _ := mirror.Matrix(m, places)
	second := slices.Clone(matrix[1])
	spoil(matrix[0])
	want(t, "another row", matrix[1], second)
	spoil(c)
	spoil(p.Actuators)
	want(t, "forces", len(p.Links) == 2 && p.Links[0] != "?" && p.Links[1] != "?", true)
	actuators, links, _ := mirror.Saturated(m, again)
	_, _ = append(actuators, 9), append(links, 9)
	free := zeros(3)
	expanded, _ := mirror.Expand(m, free)
	spoil(expanded)
	turned, _ := mirror.Turned(m, 0)
	turned.Actuators[0].At.X, turned.Links[0][0], turned.Slaves[0][1] = "?", 9, 9
	_, _ = append(turned.Links, [2]int{}), append(turned.Actuators, mirror.Actuator{})
	want(t, "the mirror", m, kept())
	want(t, "links behind its end", m.Links[:4], chain(5).Links)
	want(t, "the target", target, rats("9 -1/2 0 4 5"))
	want(t, "the places", places, []api.Place{at("0", "0"), at("1/2", "0")})
	want(t, "the free numbers", free, zeros(3))
}
