package sky_test

import (
	"math/big"
	"math/rand"
	"testing"

	"lenslet/api"
	"lenslet/sky"
)

// P7.4

// shares returns the shares of a ray, by their definition.
func shares(l sky.Layer, s sky.Star, p api.Place, frame int) [4]sky.Share {
	where := position(l, s, p, frame)
	i, f := floored(where.x)
	j, g := floored(where.y)
	var all [4]sky.Share
	for k := range all {
		x, y := minus(integer(1), f), minus(integer(1), g)
		if k%2 == 1 {
			x = f
		}
		if k/2 == 1 {
			y = g
		}
		column := modulo(new(big.Int).Add(i, big.NewInt(int64(k%2))), len(l.Screen))
		row := modulo(new(big.Int).Add(j, big.NewInt(int64(k/2))), len(l.Screen))
		all[k] = sky.Share{Column: column, Row: row, Weight: rat(times(x, y))}
	}
	return all
}

// elongated returns the elongation of a spot, by its definition.
func elongated(s sky.Star, thickness api.Rat, launch, p api.Place) point {
	half := over(value(thickness), integer(2))
	low, high := minus(value(s.Height), half), plus(value(s.Height), half)
	depth := minus(over(integer(1), low), over(integer(1), high))
	return pointOf(p).plus(pointOf(launch).times(integer(-1))).times(depth)
}

func TestExamplesOfStars(t *testing.T) {
	want(t, "Footprint", both(sky.Footprint(slanted(), "5", at("0", "1"))), is(at("1/2", "1")))
	want(t, "Footprint of a laser star", both(sky.Footprint(laser(), "5", at("0", "1"))), is(at("0", "1/2")))
	want(t, "Position", both(sky.Position(example(), slanted(), at("0", "1"), 1)), is(at("1", "1")))
	want(t, "Elongation", both(sky.Elongation(laser(), "4", origin(), at("1", "0"))), is(at("1/24", "0")))
}

func TestCheckLayer(t *testing.T) {
	for _, w := range wrongLayers() {
		want(t, "CheckLayer", sky.CheckLayer(w.l), w.e)
	}
	random := rand.New(rand.NewSource(21))
	for range 100 {
		want(t, "CheckLayer", sky.CheckLayer(someLayer(random, 16)), api.OK)
	}
	l := example()
	l.Height, l.Scale, l.Strength, l.Wind = "0", "1/"+nines600, "-"+nines600, at(nines600, "-1/"+nines600)
	want(t, "CheckLayer of a layer at the height 0", sky.CheckLayer(l), api.OK)
}

func TestCheckStar(t *testing.T) {
	for _, w := range wrongStars() {
		want(t, "CheckStar", sky.CheckStar(w.s), w.e)
	}
	for _, height := range []api.Rat{"0", "1/" + nines600, "10", nines600} {
		want(t, "CheckStar", sky.CheckStar(sky.Star{Direction: at("-1/3", nines600), Height: height}), api.OK)
	}
}

func TestFootprint(t *testing.T) {
	random := rand.New(rand.NewSource(22))
	outside := 0
	for range 1000 {
		s, height, p := someStar(random), someHeight(random), somePlace(random)
		wanted := fails[api.Place](api.ErrOutside)
		if reaches(s, value(height)) {
			wanted = is(footprint(s, value(height), pointOf(p)).place())
		} else {
			outside++
		}
		want(t, "Footprint", both(sky.Footprint(s, height, p)), wanted)
	}
	if outside < 100 || outside > 900 {
		t.Errorf("%d of 1000 heights are not below the star", outside)
	}
	p := at("-3", "1/2")
	want(t, "Footprint at the height 0", both(sky.Footprint(laser(), "0", p)), is(p))
	want(t, "Footprint at the height 0", both(sky.Footprint(slanted(), "0", p)), is(p))
	want(t, "Footprint just below the star", both(sky.Footprint(laser(), "999/100", at("1000", "-1"))), is(at("1", "-1/1000")))
	for _, height := range []api.Rat{"10", "11", nines600, "10" + power10(500)[1:] + "1/" + power10(501)} {
		want(t, "Footprint at the star and above it", both(sky.Footprint(laser(), height, p)), fails[api.Place](api.ErrOutside))
	}
	want(t, "Footprint far away", both(sky.Footprint(sky.Star{Direction: at("1", "0"), Height: "0"}, nines600, origin())), is(at(nines600, "0")))
	want(t, "Footprint with 601 digits", both(sky.Footprint(sky.Star{Direction: at("1", "0"), Height: "0"}, nines600, at("1", "0"))), fails[api.Place](api.ErrLarge))
	want(t, "Footprint with 601 digits", both(sky.Footprint(sky.Star{Direction: at("0", "1"), Height: "0"}, nines600, at("0", "1"))), fails[api.Place](api.ErrLarge))
	// A product of 1200 digits cancels.
	want(t, "Footprint that cancels", both(sky.Footprint(sky.Star{Direction: at("1/"+nines600, "0"), Height: "0"}, nines600, at("-1", "7"))), is(at("0", "7")))
}

func TestPositionAndShares(t *testing.T) {
	random := rand.New(rand.NewSource(23))
	frames := []int{0, 1, -1, 3, -7, api.MaxNumber, -api.MaxNumber}
	outside := 0
	for i := range 1000 {
		l, s, p, frame := someLayer(random, 16), someStar(random), somePlace(random), frames[i%len(frames)]
		place, cells := fails[api.Place](api.ErrOutside), fails[[4]sky.Share](api.ErrOutside)
		if reaches(s, value(l.Height)) {
			place, cells = is(position(l, s, p, frame).place()), is(shares(l, s, p, frame))
		} else {
			outside++
		}
		want(t, "Position", both(sky.Position(l, s, p, frame)), place)
		want(t, "Shares", both(sky.Shares(l, s, p, frame)), cells)
	}
	if outside < 100 || outside > 900 {
		t.Errorf("%d of 1000 layers are not below the star", outside)
	}
	for _, height := range []api.Rat{"10", "21/2", nines600} {
		l := example()
		l.Height = height
		want(t, "Position of a layer that is not below the star", both(sky.Position(l, laser(), origin(), 0)), fails[api.Place](api.ErrOutside))
		want(t, "Shares of a layer that is not below the star", both(sky.Shares(l, laser(), origin(), 0)), fails[[4]sky.Share](api.ErrOutside))
	}
}

// share returns a share.
func share(column, row int, weight api.Rat) sky.Share {
	return sky.Share{Column: column, Row: row, Weight: weight}
}

func TestSharesAtTheirEnds(t *testing.T) {
	l, up := example(), sky.Star{Direction: origin(), Height: "0"}
	for _, row := range []struct {
		x, y api.Rat
		all  [4]sky.Share
	}{
		{"1/4", "1/3", [4]sky.Share{share(0, 0, "1/2"), share(1, 0, "1/6"), share(0, 1, "1/4"), share(1, 1, "1/12")}},
		{"0", "0", [4]sky.Share{share(0, 0, "1"), share(1, 0, "0"), share(0, 1, "0"), share(1, 1, "0")}},
		{"1", "3", [4]sky.Share{share(1, 1, "1"), share(0, 1, "0"), share(1, 0, "0"), share(0, 0, "0")}},
		{"-1/2", "-2", [4]sky.Share{share(1, 0, "1/2"), share(0, 0, "1/2"), share(1, 1, "0"), share(0, 1, "0")}},
		{"3/2", "1", [4]sky.Share{share(1, 1, "1/2"), share(0, 1, "1/2"), share(1, 0, "0"), share(0, 0, "0")}},
		{api.Rat(nines600), "-" + nines600, [4]sky.Share{share(1, 1, "1"), share(0, 1, "0"), share(1, 0, "0"), share(0, 0, "0")}},
	} {
		want(t, "Shares", both(sky.Shares(l, up, at(row.x, row.y), 0)), is(row.all))
	}
	l.Screen = filled(1, 5)
	quarter := share(0, 0, "1/4")
	want(t, "Shares of one cell", both(sky.Shares(l, up, at("1/2", "-1/2"), 0)), is([4]sky.Share{quarter, quarter, quarter, quarter}))
	// The position has 601 digits, but it is at a cell.
	l.Screen, l.Scale = exampleScreen(), "10"
	want(t, "Position with 601 digits", both(sky.Position(l, up, at(nines600, "0"), 0)), fails[api.Place](api.ErrLarge))
	want(t, "Shares of a position with 601 digits", both(sky.Shares(l, up, at(nines600, "0"), 0)), is([4]sky.Share{share(0, 0, "1"), share(1, 0, "0"), share(0, 1, "0"), share(1, 1, "0")}))
	l.Scale = "1"
	want(t, "Shares with 1200 digits", both(sky.Shares(l, up, at("1/"+nines600, "1/"+nines600), 0)), fails[[4]sky.Share](api.ErrLarge))
	want(t, "Position with 600 digits", both(sky.Position(l, up, at("1/"+nines600, "1/"+nines600), 0)), is(at("1/"+nines600, "1/"+nines600)))
	// The offset and the wind cancel the footprint, which has more digits than a number may have.
	l.Scale, l.Offset, l.Wind = "10", at("-"+nines600, "1"), at("-"+nines600, "0")
	want(t, "Position by way of larger numbers", both(sky.Position(l, up, at(nines600, "0"), 9)), is(at("0", "1")))
}

func TestElongation(t *testing.T) {
	random := rand.New(rand.NewSource(24))
	for range 500 {
		s := someStar(random)
		if s.Height == "0" {
			continue
		}
		part := big.NewRat(int64(random.Intn(20)), 10) // of the height
		thickness := rat(times(part, value(s.Height)))
		launch, p := somePlace(random), somePlace(random)
		want(t, "Elongation", both(sky.Elongation(s, thickness, launch, p)), is(elongated(s, thickness, launch, p).place()))
	}
	p := at("1", "-1")
	want(t, "Elongation of a thin layer", both(sky.Elongation(laser(), "0", origin(), p)), is(origin()))
	want(t, "Elongation at the launch place", both(sky.Elongation(laser(), "19", p, p)), is(origin()))
	want(t, "Elongation of a thick layer", both(sky.Elongation(laser(), "1999/100", origin(), p)), is(elongated(laser(), "1999/100", origin(), p).place()))
	for _, thickness := range []api.Rat{"20", "21", nines600, "20" + power10(500)[1:] + "1/" + power10(501)} {
		want(t, "Elongation of a layer that is too thick", both(sky.Elongation(laser(), thickness, origin(), p)), fails[api.Place](api.ErrRange))
	}
	want(t, "Elongation with 601 digits", both(sky.Elongation(laser(), "1/"+power10(300), origin(), at("0", "1/7"))), fails[api.Place](api.ErrLarge))
	want(t, "Elongation with 601 digits", both(sky.Elongation(laser(), "1/"+power10(300), origin(), at("1/7", "0"))), fails[api.Place](api.ErrLarge))
	want(t, "Elongation of a low star", both(sky.Elongation(sky.Star{Direction: origin(), Height: "1/" + nines600}, "0", at("1", "0"), p)), is(origin()))
	want(t, "Elongation of a thick and low star", both(sky.Elongation(sky.Star{Direction: origin(), Height: "1"}, "1", origin(), p)), is(at("4/3", "-4/3")))
}

func TestWrongElongations(t *testing.T) {
	wrong := []api.Place{{}, at(digits601, "0"), origin()}
	for _, w := range wrongStars() {
		for _, p := range wrong {
			want(t, "Elongation", both(sky.Elongation(w.s, "?", p, p)), fails[api.Place](w.e))
			want(t, "Elongation", both(sky.Elongation(w.s, "1", p, p)), fails[api.Place](w.e))
		}
	}
	for _, thickness := range []api.Rat{"?", digits601, "-1", "0", "1", nines600} {
		for _, p := range wrong {
			want(t, "Elongation of a natural star", both(sky.Elongation(slanted(), thickness, p, p)), fails[api.Place](api.ErrKind))
		}
	}
	for _, w := range wrongRats("-1", "-1/"+nines600, "20", "100", nines600) {
		for _, p := range wrong {
			want(t, "Elongation", both(sky.Elongation(laser(), w.a, p, p)), fails[api.Place](w.e))
		}
	}
	for _, w := range wrongPlaces() {
		want(t, "Elongation", both(sky.Elongation(laser(), "1", w.at, api.Place{})), fails[api.Place](w.e))
		want(t, "Elongation", both(sky.Elongation(laser(), "1", w.at, at(digits601, "0"))), fails[api.Place](w.e))
		want(t, "Elongation", both(sky.Elongation(laser(), "1", origin(), w.at)), fails[api.Place](w.e))
	}
}

func TestWrongFootprints(t *testing.T) {
	for _, w := range wrongStars() {
		for _, height := range []api.Rat{"?", digits601, "-1", "1"} {
			want(t, "Footprint", both(sky.Footprint(w.s, height, api.Place{})), fails[api.Place](w.e))
			want(t, "Footprint", both(sky.Footprint(w.s, height, origin())), fails[api.Place](w.e))
		}
	}
	for _, w := range wrongRats("-1", "-1/"+nines600) {
		for _, p := range []api.Place{{}, at(digits601, "0"), origin()} {
			want(t, "Footprint", both(sky.Footprint(laser(), w.a, p)), fails[api.Place](w.e))
		}
	}
	for _, w := range wrongPlaces() {
		for _, height := range []api.Rat{"5", "10"} {
			want(t, "Footprint", both(sky.Footprint(laser(), height, w.at)), fails[api.Place](w.e))
		}
	}
}

// rayOf returns the results of the functions of a layer and a ray.
func rayOf(l sky.Layer, s sky.Star, p api.Place, frame int) map[string]result[any] {
	place, wrongPosition := sky.Position(l, s, p, frame)
	all, wrongShares := sky.Shares(l, s, p, frame)
	phase, wrongPhase := sky.LayerPhase(l, s, p, frame)
	return map[string]result[any]{
		"Position":   {place, wrongPosition},
		"Shares":     {all, wrongShares},
		"LayerPhase": {phase, wrongPhase},
	}
}

// wantFailures reports functions of a layer and a ray that do not return an error.
func wantFailures(t *testing.T, l sky.Layer, s sky.Star, p api.Place, frame int, e api.Errno) {
	t.Helper()
	zeros := map[string]any{"Position": api.Place{}, "Shares": [4]sky.Share{}, "LayerPhase": api.Rat("")}
	for what, got := range rayOf(l, s, p, frame) {
		want(t, what, got, result[any]{zeros[what], e})
	}
}

func TestWrongRays(t *testing.T) {
	low := sky.Star{Direction: origin(), Height: "1"} // below the layer
	places := []api.Place{{}, at(digits601, "0"), origin()}
	frames := append(wrongInts(), 0)
	for _, w := range wrongLayers() {
		for _, s := range []sky.Star{{}, {Direction: origin(), Height: "-1"}, low} {
			for _, p := range places {
				wantFailures(t, w.l, s, p, far, w.e)
				wantFailures(t, w.l, s, p, 0, w.e)
			}
		}
	}
	for _, w := range wrongStars() {
		for _, p := range places {
			for _, frame := range frames {
				wantFailures(t, example(), w.s, p, frame, w.e)
			}
		}
	}
	for _, w := range wrongPlaces() {
		for _, frame := range frames {
			wantFailures(t, example(), low, w.at, frame, w.e)
		}
	}
	for _, frame := range wrongInts() {
		wantFailures(t, example(), low, origin(), frame, api.ErrRange)
		wantFailures(t, example(), laser(), origin(), frame, api.ErrRange)
	}
	wantFailures(t, example(), low, origin(), api.MaxNumber, api.ErrOutside)
	low.Height = "5" // at the layer
	wantFailures(t, example(), low, origin(), -api.MaxNumber, api.ErrOutside)
}
