package loop_test

import (
	"math"
	"math/rand"
	"reflect"
	"slices"
	"testing"

	"lenslet/api"
	"lenslet/loop"
)

// P1 of DOC.md: each function has a result for all arguments, and together with an error the other
// results are their zero values.

// zeroBeside reports a result beside an error that is not its zero value.
func zeroBeside[T any](t *testing.T, what string, r result[T]) {
	t.Helper()
	if r.Error != api.OK && !reflect.ValueOf(r.Value).IsZero() {
		t.Errorf("%s: %v beside the error %v", what, r.Value, r.Error)
	}
}

// oddRats are numbers of any form.
func oddRats() []api.Rat {
	return []api.Rat{"", "0", "-0", "1", "-1", "1/2", "-7/3", "2/4", nines600, "-" + nines600, "1/" + nines600, power10(599) + "/" + nines600, digits601, "x"}
}

// oddLists are lists of numbers of any form.
func oddLists(random *rand.Rand) [][]api.Rat {
	all := [][]api.Rat{nil, {}, make([]api.Rat, 1000), {nines600, "1"}, {"1", nines600}, {"1/" + nines600, "-1/2", nines600}}
	for _, a := range oddRats() {
		all = append(all, []api.Rat{a}, repeated(a, 13), repeated(a, 32), repeated(a, 65), []api.Rat{"1", a, "2"})
	}
	for n := range 14 {
		all = append(all, someList(random, n).rats())
	}
	return all
}

// oddLoops are loops of any form.
func oddLoops(random *rand.Rand) []loop.Loop {
	all := []loop.Loop{{}, example(), unstable(), {Gain: "0", Leak: "0", Prediction: "0"}, {Gain: "1/2", Leak: "1", Prediction: "0", Delay: far}, {Gain: "1/2", Leak: "1", Prediction: "0", Delay: -far - 1}}
	for _, a := range oddRats() {
		for _, b := range []api.Rat{"1/2", "1/" + nines600, nines600} {
			all = append(all, loop.Loop{Gain: a, Leak: "1", Prediction: b, Delay: 6}, loop.Loop{Gain: b, Leak: a, Prediction: "0"}, loop.Loop{Gain: "1/2", Leak: b, Prediction: a, Delay: 2})
		}
	}
	for range 10 {
		all = append(all, someLoop(random))
	}
	return all
}

func TestTotalOfPolys(t *testing.T) {
	lists := oddLists(rand.New(rand.NewSource(1)))
	for _, p := range lists {
		loop.CheckPoly(p)
		zeroBeside(t, "Stable", both(loop.Stable(p)))
		for _, n := range []int{-far - 1, -1, 0, 1, 3, 32, far} {
			zeroBeside(t, "Radius", both(loop.Radius(p, n)))
			zeroBeside(t, "Decay", both(loop.Decay(p, n)))
		}
		for _, x := range oddRats() {
			zeroBeside(t, "Value", both(loop.Value(p, x)))
			zeroBeside(t, "Scaled", both(loop.Scaled(p, x)))
		}
		for _, q := range lists {
			zeroBeside(t, "Multiply", both(loop.Multiply(p, q)))
		}
	}
}

func TestTotalOfLoops(t *testing.T) {
	random := rand.New(rand.NewSource(2))
	lists := oddLists(random)
	for i, l := range oddLoops(random) {
		loop.CheckLoop(l)
		zeroBeside(t, "Closed", both(loop.Closed(l)))
		zeroBeside(t, "Steady", both(loop.Steady(l)))
		for _, n := range []int{-far - 1, -1, 0, 1, 2, 5, 12, far} {
			zeroBeside(t, "Limit", both(loop.Limit(l, n)))
			zeroBeside(t, "Margin", both(loop.Margin(l, n)))
			zeroBeside(t, "Impulse", both(loop.Impulse(l, n)))
			zeroBeside(t, "Sweep", both(loop.Sweep(l, n)))
			for _, turn := range oddRats() {
				zeroBeside(t, "Rejection", both(loop.Rejection(l, turn, n)))
			}
		}
		for _, a := range oddRats() {
			zeroBeside(t, "Certified", both(loop.Certified(l, api.Span{Low: a, High: "2"})))
			zeroBeside(t, "Certified", both(loop.Certified(l, api.Span{Low: "0", High: a})))
		}
		for k, record := range lists {
			if k%20 != i%20 { // so that the test does not take long
				continue
			}
			zeroBeside(t, "Run", runOf(l, record))
			zeroBeside(t, "Cost", both(loop.Cost(l, record)))
			zeroBeside(t, "Best", bestOf(l, list("1/2 1/3"), record))
			zeroBeside(t, "Best", bestOf(l, record, list("1 2")))
		}
		for _, c := range [][]complex128{nil, {0}, {complex(math.NaN(), 1)}, {1e308, 1e-320i}, {math.MaxFloat64, 5e-324}, make([]complex128, 64), make([]complex128, 65)} {
			loop.CheckSweep(l, c)
		}
	}
}

// TestArgumentsStayAsTheyAre calls functions twice with the same memory, and changes their results.
func TestArgumentsStayAsTheyAre(t *testing.T) {
	p, q, record, gains := list("-1/6 -1/6 1"), list("1/3 0 2"), list("1 1/2 -1"), list("1 1/2 5/2")
	c := []complex128{0, 1.2 + 0.4i}
	kept := [][]api.Rat{slices.Clone(p), slices.Clone(q), slices.Clone(record), slices.Clone(gains)}
	var firsts []any
	for range 2 {
		product, scaled := both(loop.Multiply(p, q)), both(loop.Scaled(q, "2"))
		h, impulse := runOf(example(), record), both(loop.Impulse(example(), 3))
		closed, sweep := both(loop.Closed(example())), both(loop.Sweep(example(), 2))
		best := bestOf(example(), gains, record)
		want(t, "CheckSweep", loop.CheckSweep(example(), c), api.OK)
		loop.Stable(p)
		loop.Radius(p, 3)
		loop.Decay(p, 3)
		loop.Value(p, "2")
		loop.Cost(example(), record)
		all := []any{
			slices.Clone(product.Value), slices.Clone(scaled.Value), slices.Clone(h.Value.Residuals), slices.Clone(h.Value.Commands),
			slices.Clone(impulse.Value), slices.Clone(closed.Value), slices.Clone(sweep.Value), best,
		}
		if firsts == nil {
			firsts = all
		}
		want(t, "results of a second call", all, firsts)
		for _, l := range [][]api.Rat{product.Value, scaled.Value, h.Value.Residuals, impulse.Value, closed.Value} {
			for i := range l {
				l[i] = "77"
			}
		}
		want(t, "memory of Run", h.Value.Commands, firsts[3])
	}
	want(t, "arguments", [][]api.Rat{p, q, record, gains}, kept)
	want(t, "arguments", c, []complex128{0, 1.2 + 0.4i})
}
