package sky_test

import (
	"math/rand"
	"reflect"
	"slices"
	"testing"

	"lenslet/api"
	"lenslet/sky"
)

// P1 of DOC.md: each function has a result for all arguments, and together with an error the other
// results are their zero values.

// zeroBeside reports a result beside an error that is not its zero value.
func zeroBeside[T any](t *testing.T, what string, r result[T]) {
	t.Helper()
	if r.Error != api.OK && !reflect.ValueOf(r.Value).IsZero() {
		t.Errorf("%s: %v beside the error %v", what, r.Value, r.Error)
	}
}

// oddRats are numbers of any form.
func oddRats() []api.Rat {
	return []api.Rat{"", "0", "-0", "1", "-1", "1/2", "-7/3", nines600, "-1/" + nines600, power10(599) + "/" + nines600, digits601}
}

// oddInts are integers of any size.
func oddInts() []int {
	return []int{-far - 1, -1 << 32, -api.MaxNumber, -1, 0, 1, 2, 16, 17, api.MaxNumber, 2147483646, far}
}

// oddSquares are screens and kernels of any form.
func oddSquares(random *rand.Rand) [][][]int {
	return [][][]int{
		nil, {{}}, {nil, nil}, {{1, 2}, {3}}, {{far}}, {{-far - 1, 1}, {2, 3}}, {{1, 2, 3}}, make([][]int, 1000),
		filled(1, 1000), filled(3, 100), filled(5, -100), filled(16, -1000), filled(17, 0), exampleScreen(), someScreen(random, 16),
	}
}

// oddLayers are layers of any form.
func oddLayers(random *rand.Rand) []sky.Layer {
	all := []sky.Layer{{}, example(), someLayer(random, 4)}
	for _, s := range oddSquares(random) {
		l := example()
		l.Screen = s
		all = append(all, l)
	}
	for _, a := range oddRats() {
		for _, b := range []api.Rat{"1/7", nines600} {
			all = append(all,
				sky.Layer{Screen: exampleScreen(), Height: a, Scale: b, Strength: "1", Offset: at(b, a), Wind: origin()},
				sky.Layer{Screen: exampleScreen(), Height: b, Scale: a, Strength: b, Offset: origin(), Wind: at(a, b)},
				sky.Layer{Screen: filled(2, 3), Height: "1", Scale: b, Strength: a, Offset: at(b, b), Wind: at("1", b)},
			)
		}
	}
	return all
}

// oddStars are stars of any form.
func oddStars() []sky.Star {
	all := []sky.Star{{}, slanted(), laser()}
	for _, a := range oddRats() {
		all = append(all, sky.Star{Direction: at(a, "1/3"), Height: "0"}, sky.Star{Direction: at("1", a), Height: "2"}, sky.Star{Direction: at("1/7", "0"), Height: a})
	}
	return all
}

func TestTotalOfScreens(t *testing.T) {
	squares := oddSquares(rand.New(rand.NewSource(1)))
	for _, s := range squares {
		sky.CheckScreen(s)
		zeroBeside(t, "Mean", both(sky.Mean(s)))
		zeroBeside(t, "Variance", both(sky.Variance(s)))
		for _, kernel := range squares {
			zeroBeside(t, "Smooth", both(sky.Smooth(s, kernel)))
		}
		for _, n := range oddInts() {
			for _, k := range oddInts() {
				zeroBeside(t, "Shift", both(sky.Shift(s, n, k)))
				zeroBeside(t, "Structure", both(sky.Structure(s, n, k)))
			}
		}
		for _, a := range oddRats() {
			zeroBeside(t, "Floats", both(sky.Floats(s, a)))
			zeroBeside(t, "Value", both(sky.Value(s, at(a, "1/3"))))
			zeroBeside(t, "Value", both(sky.Value(s, at("-5", a))))
		}
	}
	for _, key := range oddInts() {
		for _, side := range oddInts() {
			for _, weights := range [][]int{nil, oddInts(), {0}, {1}, {1, -1, 1}, make([]int, 1000), slices.Repeat([]int{1000}, 33)} {
				zeroBeside(t, "Drawn", both(sky.Drawn(key, side, weights)))
			}
		}
	}
}

func TestTotalOfRays(t *testing.T) {
	random := rand.New(rand.NewSource(2))
	layers, stars := oddLayers(random), oddStars()
	for i, l := range layers {
		sky.CheckLayer(l)
		for _, n := range oddInts() {
			zeroBeside(t, "Blown", both(sky.Blown(l, n)))
		}
		for k, s := range stars {
			p := at(oddRats()[(i+k)%11], "1/"+nines600)
			frame := oddInts()[(i+2*k)%12]
			zeroBeside(t, "Position", both(sky.Position(l, s, p, frame)))
			zeroBeside(t, "Shares", both(sky.Shares(l, s, p, frame)))
			zeroBeside(t, "LayerPhase", both(sky.LayerPhase(l, s, p, frame)))
			some := []sky.Layer{example(), l}
			zeroBeside(t, "Phase", both(sky.Phase(some, s, p, frame)))
			zeroBeside(t, "Phases", both(sky.Phases(some, s, []api.Place{origin(), p}, 1)))
			zeroBeside(t, "Matrix", both(sky.Matrix(some, []sky.Star{laser(), s}, []api.Place{p}, frame)))
		}
	}
	for _, s := range stars {
		sky.CheckStar(s)
		for _, a := range oddRats() {
			for _, b := range oddRats() {
				zeroBeside(t, "Footprint", both(sky.Footprint(s, a, at(b, "1"))))
				zeroBeside(t, "Elongation", both(sky.Elongation(s, a, at("1", b), at(b, "1/3"))))
			}
		}
	}
}

func TestTotalOfTomography(t *testing.T) {
	random := rand.New(rand.NewSource(3))
	matrices := [][][]api.Rat{
		nil, {{}}, {{}, {"1"}}, {{""}}, {{"1", "2"}, {"3"}}, make([][]api.Rat, 65), numbers(random, 3, 65), numbers(random, 64, 64),
		{{nines600, "1/" + nines600}, {"-1/7", power10(599)}}, {{"0"}}, numbers(random, 5, 3), numbers(random, 3, 20),
	}
	for _, m := range matrices {
		lists := [][]api.Rat{nil, {""}, {digits601}, list("1 2"), slices.Repeat(list("1/2"), len(m)), slices.Repeat([]api.Rat{nines600}, len(m))}
		for _, phases := range lists {
			for _, load := range []api.Rat{"", "0", "-1", "1/3", nines600} {
				zeroBeside(t, "Tomography", both(sky.Tomography(m, phases, load)))
			}
		}
	}
}

// TestArgumentsStayAsTheyAre calls functions twice with the same memory, and changes their results.
func TestArgumentsStayAsTheyAre(t *testing.T) {
	l, kernel, weights := example(), [][]int{{0, 1, 0}, {0, 1, 0}, {0, 0, 0}}, []int{1, 2, 3}
	layers, stars, places := []sky.Layer{l, withSide(3)}, []sky.Star{slanted(), laser()}, []api.Place{at("0", "1"), at("1/2", "1")}
	m, phases := [][]api.Rat{list("1 2"), list("3 4")}, list("5 6")
	kept := []any{copied(l.Screen), copied(kernel), slices.Clone(weights), slices.Clone(stars), slices.Clone(places), [][]api.Rat{list("1 2"), list("3 4")}, slices.Clone(phases)}
	var firsts []any
	for range 2 {
		drawn, smooth := good(t, both(sky.Drawn(5, 3, weights))), good(t, both(sky.Smooth(l.Screen, kernel)))
		shifted, floats := good(t, both(sky.Shift(l.Screen, 0, 0))), good(t, both(sky.Floats(l.Screen, "1/2")))
		blown, sums := good(t, both(sky.Blown(l, 3))), good(t, both(sky.Phases(layers, stars[0], places, 1)))
		matrix, x := good(t, both(sky.Matrix(layers, stars, places, 1))), good(t, both(sky.Tomography(m, phases, "1")))
		all := []any{copied(drawn), copied(smooth), copied(shifted), slices.Clone(floats[0]), copied(blown.Screen), blown.Offset, slices.Clone(sums), slices.Clone(matrix[1]), slices.Clone(x)}
		if firsts == nil {
			firsts = all
		}
		want(t, "the results of the second call", all, firsts)
		for _, s := range [][][]int{drawn, smooth, shifted, blown.Screen} {
			second := slices.Clone(s[1])
			s[0] = append(s[0], 9)
			s[0][0], s[0][1] = 7, 7
			want(t, "the second row", s[1], second)
		}
		floats[0][0], sums[0], x[0], matrix[0][0] = 7, "?", "?", "?"
		want(t, "the second row of the matrix", matrix[1], firsts[7])
	}
	want(t, "the arguments", []any{l.Screen, kernel, weights, stars, places, m, phases}, kept)
	want(t, "the screens of layers", [][][]int{layers[0].Screen, layers[1].Screen}, [][][]int{exampleScreen(), filled(3, 1)})
}
