package reconstruct_test

import (
	"math/rand"
	"reflect"
	"slices"
	"testing"

	"lenslet/api"
	"lenslet/reconstruct"
)

// P1 of DOC.md: each function has a result for all arguments, and together with an error the other
// results are their zero values.

// zeroBeside reports a result beside an error that is not its zero value.
func zeroBeside[T any](t *testing.T, what string, r result[T]) {
	t.Helper()
	if r.Error != api.OK && !reflect.ValueOf(r.Value).IsZero() {
		t.Errorf("%s: %v beside the error %v", what, r.Value, r.Error)
	}
}

// oddMatrices are matrices of any form.
func oddMatrices(random *rand.Rand) [][][]api.Rat {
	all := [][][]api.Rat{
		nil, {{}}, {{}, {"1"}}, {{""}}, example(), single(), rows("1 2; 3"),
		filled(65, 1, "1"), filled(1, 17, "1"), filled(64, 16, nines600), filled(8, 16, "-1/"+nines600), filled(64, 2, digits601),
		{{nines600, "1/" + nines600}, {"-1/7", power10(599)}}, {{"1", nines600}, {"2", "1/" + nines600}, {"3", "0"}}, {{nines600, "-" + nines600, "1/" + nines600}},
	}
	for range 6 {
		all = append(all, someInteraction(random, 64, 5).rats(), someInteraction(random, 5, 16).rats())
	}
	return append(all, someMatrix(random, 64, 16, 4).rats())
}

// oddLists are lists of numbers of any form, also for a matrix.
func oddLists(random *rand.Rand, m [][]api.Rat) [][]api.Rat {
	all := [][]api.Rat{nil, {""}, {"-0"}}
	lengths := []int{len(m)}
	if len(m) > 0 {
		lengths = append(lengths, len(m[0]))
	}
	for _, n := range lengths {
		all = append(all, repeated("0", n), repeated("-1", n), repeated(nines600, n), repeated("1/"+nines600, n), repeated(digits601, n), someWeights(random, n).rats())
	}
	return all
}

func TestTotal(t *testing.T) {
	random := rand.New(rand.NewSource(51))
	matrices := oddMatrices(random)
	for _, d := range matrices {
		reconstruct.CheckInteraction(d)
		zeroBeside(t, "Rank", both(reconstruct.Rank(d)))
		zeroBeside(t, "Unseen", both(reconstruct.Unseen(d)))
		zeroBeside(t, "Blind", both(reconstruct.Blind(d)))
		zeroBeside(t, "Controlled", both(reconstruct.Controlled(d)))
		for _, slopes := range [][]int{nil, {-far - 1}, {-1}, {0}, {far}, {0, 1, 2}, {1, 0}, make([]int, 1000)} {
			zeroBeside(t, "Dropped", both(reconstruct.Dropped(d, slopes)))
		}
		for _, x := range oddLists(random, d) {
			checkLists(t, d, x)
			for _, other := range matrices[:8] {
				reconstruct.CheckBlind(d, other)
				reconstruct.CheckReconstructor(d, x, other)
				zeroBeside(t, "Modal", both(reconstruct.Modal(d, x, other)))
			}
		}
	}
}

// checkLists calls the functions of a matrix and lists.
func checkLists(t *testing.T, d [][]api.Rat, x []api.Rat) {
	t.Helper()
	zeroBeside(t, "Split", splitOf(d, x))
	r := both(reconstruct.Reconstructor(d, x))
	zeroBeside(t, "Reconstructor", r)
	if r.Error == api.OK {
		want(t, "CheckReconstructor", reconstruct.CheckReconstructor(d, x, r.Value), api.OK)
	}
	for _, a := range []api.Rat{"", "0", "-1", "1/3", nines600, "1/" + nines600} {
		zeroBeside(t, "Damped", both(reconstruct.Damped(d, x, a)))
	}
	zeroBeside(t, "Apply", both(reconstruct.Apply(d, x)))
	zeroBeside(t, "Noise", both(reconstruct.Noise(d, x)))
	zeroBeside(t, "Compose", both(reconstruct.Compose(d, x)))
	for _, y := range [][]api.Rat{nil, x, {"1"}, {nines600, "1"}, {"1", "2", "3"}} {
		zeroBeside(t, "Residual", both(reconstruct.Residual(d, x, y)))
		zeroBeside(t, "Cost", both(reconstruct.Cost(d, x, x, y)))
		zeroBeside(t, "Cost", both(reconstruct.Cost(d, x, y, x)))
	}
}

func TestTotalOfPokes(t *testing.T) {
	random := rand.New(rand.NewSource(52))
	sizes := []int{-far - 1, -1, 0, 1, 2, 16, 17, 64, 65, far}
	pokes := [][]reconstruct.Poke{
		nil, {{}}, make([]reconstruct.Poke, 300), {poke(far, "1", "1")}, {poke(-1, "", "")}, {poke(0, "0", "1")},
		{poke(0, nines600, string(nines600)), poke(0, "1/"+nines600, "1")}, {poke(1, "1", "1 2"), poke(0, "-1/"+nines600, "1 "+string(nines600))},
		somePokes(random, 1, 1, 255), somePokes(random, 64, 16, 20), somePokes(random, 2, 2, 5), somePokes(random, 64, 1, 5),
	}
	for _, p := range pokes {
		for _, slopes := range sizes {
			for _, actuators := range sizes {
				zeroBeside(t, "Interaction", both(reconstruct.Interaction(p, slopes, actuators)))
				zeroBeside(t, "Scatter", both(reconstruct.Scatter(p, slopes, actuators)))
			}
		}
	}
}

// TestArgumentsAreKept changes results and looks whether arguments or other results change.
func TestArgumentsAreKept(t *testing.T) {
	d, ones, x := example(), list("1 1"), list("3 0 1")
	pokes := []reconstruct.Poke{poke(0, "2", "2 4"), poke(0, "-1", "-3 -2")}
	spoil := func(list []api.Rat) {
		for i := range list {
			list[i] = "?"
		}
		_ = append(list, "?")
	}
	spoilFirst := func(what string, m [][]api.Rat, e api.Errno) {
		t.Helper()
		want(t, what, e, api.OK)
		others := slices.Clone(m[1:])
		for i, row := range others {
			others[i] = slices.Clone(row)
		}
		spoil(m[0])
		want(t, what, m[1:], others)
	}
	r, e := reconstruct.Reconstructor(d, ones)
	reconstruct.CheckReconstructor(d, ones, r)
	spoilFirst("Reconstructor", r, e)
	matrix, e := reconstruct.Interaction(pokes, 2, 1)
	spoilFirst("Interaction", matrix, e)
	basis, e := reconstruct.Blind(rows("0 1 -1"))
	spoilFirst("Blind", basis, e)
	basis, e = reconstruct.Controlled(d)
	reconstruct.CheckBlind(d, basis)
	spoilFirst("Controlled", basis, e)
	modes := rows("1 0 -1; 1 1 0")
	modal, e := reconstruct.Modal(d, ones, modes)
	spoilFirst("Modal", modal, e)
	damped, e := reconstruct.Damped(d, ones, "1")
	spoilFirst("Damped", damped, e)
	dropped, e := reconstruct.Dropped(d, nil)
	spoilFirst("Dropped", dropped, e)
	seen, blind, _ := reconstruct.Split(d, x)
	spoil(seen)
	want(t, "the blind part", blind, list("4/3 4/3 4/3"))
	for _, result := range [][]api.Rat{blind, must(reconstruct.Apply(d, x)), must(reconstruct.Compose(modes, ones)), must(reconstruct.Residual(d, ones, x)), must(reconstruct.Noise(d, x)), must(reconstruct.Scatter(pokes, 2, 1))} {
		spoil(result)
	}
	reconstruct.Cost(d, ones, ones, x)
	reconstruct.Unseen(d)
	want(t, "the matrix", d, example())
	want(t, "the weights", ones, list("1 1"))
	want(t, "the command", x, list("3 0 1"))
	want(t, "the modes", modes, rows("1 0 -1; 1 1 0"))
	want(t, "the pokes", pokes, []reconstruct.Poke{poke(0, "2", "2 4"), poke(0, "-1", "-3 -2")})
}

// must returns a list that has no error.
func must(list []api.Rat, e api.Errno) []api.Rat {
	if e != api.OK {
		panic(e)
	}
	return list
}
