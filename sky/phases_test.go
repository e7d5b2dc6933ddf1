package sky_test

import (
	"math/rand"
	"slices"
	"testing"

	"lenslet/api"
	"lenslet/sky"
)

// P7.5

// withHeight returns the layer L of the chapter's examples at another height.
func withHeight(height api.Rat) sky.Layer {
	l := example()
	l.Height = height
	return l
}

// withStrength returns the layer L of the chapter's examples with another strength.
func withStrength(strength api.Rat) sky.Layer {
	l := example()
	l.Strength = strength
	return l
}

func TestExamplesOfPhases(t *testing.T) {
	want(t, "LayerPhase", both(sky.LayerPhase(example(), slanted(), at("0", "1"), 1)), is[api.Rat]("3/2"))
	want(t, "LayerPhase of the laser star", both(sky.LayerPhase(example(), laser(), at("0", "1"), 0)), is[api.Rat]("1/2"))
	want(t, "Phase", both(sky.Phase([]sky.Layer{example()}, slanted(), at("0", "1"), 1)), is[api.Rat]("3/2"))
	want(t, "Phases", both(sky.Phases([]sky.Layer{example()}, laser(), []api.Place{at("0", "1")}, 0)), is(list("1/2")))
}

func TestPhases(t *testing.T) {
	random := rand.New(rand.NewSource(31))
	frames := []int{0, 1, -1, 5, -12, api.MaxNumber, -api.MaxNumber}
	outside := 0
	for i := range 400 {
		layers, s, frame := someLayers(random, i%5, 16), someStar(random), frames[i%len(frames)]
		places := somePlaces(random, random.Intn(4))
		var phases []api.Rat
		for _, p := range places {
			sum := rat(phase(layers, s, p, frame))
			phases = append(phases, sum)
			want(t, "Phase", both(sky.Phase(layers, s, p, frame)), is(sum))
			for k, l := range layers {
				wanted := is(rat(phase(layers[k:k+1], s, p, frame)))
				if !reaches(s, value(l.Height)) {
					outside++
					wanted = fails[api.Rat](api.ErrOutside)
				}
				want(t, "LayerPhase", both(sky.LayerPhase(l, s, p, frame)), wanted)
			}
		}
		want(t, "Phases", both(sky.Phases(layers, s, places, frame)), is(phases))
	}
	if outside < 100 {
		t.Errorf("only %d layers are not below the star", outside)
	}
}

func TestPhasesAtTheirEnds(t *testing.T) {
	p := at("1/2", "0")
	none := []sky.Layer(nil)
	want(t, "Phase without layers", both(sky.Phase(none, laser(), p, 0)), is[api.Rat]("0"))
	want(t, "Phases without layers", both(sky.Phases(none, laser(), []api.Place{p, p}, 0)), is(list("0 0")))
	want(t, "Phases without places", both(sky.Phases(none, laser(), nil, 0)), is([]api.Rat(nil)))
	want(t, "Phases without places", both(sky.Phases([]sky.Layer{example()}, laser(), nil, 0)), is([]api.Rat(nil)))
	four := slices.Repeat([]sky.Layer{withHeight("0")}, 4)
	want(t, "Phase of 4 layers", both(sky.Phase(four, laser(), p, 0)), is[api.Rat]("1"))
	want(t, "Phases at 256 places", both(sky.Phases(four, laser(), slices.Repeat([]api.Place{p}, 256), 0)), is(slices.Repeat(list("1"), 256)))
	// Only the layers below the laser star count, and all below a natural one.
	mixed := []sky.Layer{withHeight("10"), withHeight("0"), withHeight("11"), withHeight("99/10")}
	want(t, "Phase of the layers below a laser star", both(sky.Phase(mixed, laser(), p, 0)), is[api.Rat]("101/400"))
	want(t, "Phase of the layers above a laser star", both(sky.Phase(mixed[2:3], laser(), p, 0)), is[api.Rat]("0"))
	want(t, "Phase of all layers", both(sky.Phase(mixed, sky.Star{Direction: origin(), Height: "0"}, p, 0)), is[api.Rat]("1"))
	want(t, "LayerPhase at the height 0", both(sky.LayerPhase(withHeight("0"), laser(), p, 1)), is[api.Rat]("1/2"))
	want(t, "LayerPhase at a frame below 0", both(sky.LayerPhase(withHeight("0"), laser(), p, -3)), is[api.Rat]("1/2"))
	want(t, "LayerPhase of the strength 0", both(sky.LayerPhase(withStrength("0"), laser(), at(nines600, nines600), 0)), is[api.Rat]("0"))
	want(t, "LayerPhase of a strength below 0", both(sky.LayerPhase(withStrength("-2"), laser(), at("1", "1"), 0)), is[api.Rat]("-3"))
}

func TestPhasesOfManyDigits(t *testing.T) {
	up := sky.Star{Direction: origin(), Height: "0"}
	want(t, "LayerPhase with 600 digits", both(sky.LayerPhase(withStrength(nines600), up, at("1", "0"), 0)), is(nines600))
	large := fails[api.Rat](api.ErrLarge)
	want(t, "LayerPhase with 601 digits", both(sky.LayerPhase(withStrength(nines600), up, at("0", "1"), 0)), large)
	pair := []sky.Layer{withStrength(nines600), withStrength("-" + nines600)}
	want(t, "Phase by way of 601 digits", both(sky.Phase(pair, up, at("0", "1"), 0)), is[api.Rat]("0"))
	want(t, "Phase with 601 digits", both(sky.Phase(pair[:1], up, at("0", "1"), 0)), large)
	fine := []sky.Layer{withStrength("1/" + power10(300)), withStrength("1/" + power10(300)[:300] + "1")} // without a common divisor
	want(t, "Phase with a denominator of 601 digits", both(sky.Phase(fine, up, at("1", "0"), 0)), large)
	places := []api.Place{at("1", "0"), at("0", "0")}
	want(t, "Phases with 601 digits", both(sky.Phases(pair[:1], up, []api.Place{at("1", "0"), at("0", "1")}, 0)), fails[[]api.Rat](api.ErrLarge))
	want(t, "Phases with 600 digits", both(sky.Phases(pair[:1], up, places, 0)), is([]api.Rat{nines600, "0"}))
}

func TestBlown(t *testing.T) {
	random := rand.New(rand.NewSource(32))
	for _, frames := range []int{0, 1, -1, 7, -100, api.MaxNumber, -api.MaxNumber} {
		for range 20 {
			l := someLayer(random, 4)
			wanted := l
			wanted.Offset = pointOf(l.Offset).plus(pointOf(l.Wind).times(integer(frames))).place()
			want(t, "Blown", both(sky.Blown(l, frames)), is(wanted))
		}
	}
	l := example()
	l.Offset, l.Wind = at(nines600, "0"), at("-1", "1/3")
	want(t, "Blown with 600 digits", both(sky.Blown(l, 0)), is(l))
	large := fails[sky.Layer](api.ErrLarge)
	want(t, "Blown with 601 digits", both(sky.Blown(l, -1)), large)
	l.Offset, l.Wind = at("0", "-"+nines600), at("1", "1/3")
	want(t, "Blown with 601 digits", both(sky.Blown(l, -3)), large)
	wanted := l
	wanted.Offset = at("3", "-"+nines600[1:]+"8")
	want(t, "Blown with 600 digits", both(sky.Blown(l, 3)), is(wanted))
}

func TestWrongPhases(t *testing.T) {
	frames := append(wrongInts(), 0)
	stars := []sky.Star{{}, {Direction: origin(), Height: "-1"}, laser()}
	many := slices.Repeat([]api.Place{origin()}, 257)
	for _, w := range layerLists() {
		for _, s := range stars {
			for _, places := range [][]api.Place{nil, {{}}, many} {
				want(t, "Phases", both(sky.Phases(w.list, s, places, 0)), fails[[]api.Rat](w.e))
				want(t, "Phases", both(sky.Phases(w.list, s, places, far)), fails[[]api.Rat](w.e))
			}
			want(t, "Phase", both(sky.Phase(w.list, s, api.Place{}, 0)), fails[api.Rat](w.e))
			want(t, "Phase", both(sky.Phase(w.list, s, origin(), far)), fails[api.Rat](w.e))
		}
	}
	for _, layers := range [][]sky.Layer{nil, {example()}} {
		for _, w := range wrongStars() {
			for _, frame := range frames {
				want(t, "Phase", both(sky.Phase(layers, w.s, api.Place{}, frame)), fails[api.Rat](w.e))
				want(t, "Phase", both(sky.Phase(layers, w.s, origin(), frame)), fails[api.Rat](w.e))
				want(t, "Phases", both(sky.Phases(layers, w.s, many, frame)), fails[[]api.Rat](w.e))
				want(t, "Phases", both(sky.Phases(layers, w.s, nil, frame)), fails[[]api.Rat](w.e))
			}
		}
		for _, frame := range frames {
			for _, w := range wrongPlaces() {
				want(t, "Phase", both(sky.Phase(layers, laser(), w.at, frame)), fails[api.Rat](w.e))
			}
			for _, w := range placeLists() {
				want(t, "Phases", both(sky.Phases(layers, laser(), w.list, frame)), fails[[]api.Rat](w.e))
			}
		}
		for _, frame := range wrongInts() {
			want(t, "Phase", both(sky.Phase(layers, laser(), origin(), frame)), fails[api.Rat](api.ErrRange))
			want(t, "Phases", both(sky.Phases(layers, laser(), nil, frame)), fails[[]api.Rat](api.ErrRange))
		}
	}
	for _, w := range wrongLayers() {
		for _, frame := range frames {
			want(t, "Blown", both(sky.Blown(w.l, frame)), fails[sky.Layer](w.e))
		}
	}
	for _, frame := range wrongInts() {
		want(t, "Blown", both(sky.Blown(example(), frame)), fails[sky.Layer](api.ErrRange))
	}
}
