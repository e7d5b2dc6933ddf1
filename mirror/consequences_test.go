package mirror_test

import (
	"math/big"
	"math/rand"
	"testing"

	"lenslet/api"
	"lenslet/mirror"
)

// P4.5

func TestNoCommandIsNearer(t *testing.T) {
	random := rand.New(rand.NewSource(41))
	for range 150 {
		m := someMirror(random, 16)
		target := someNumbers(random, m)
		c := wantNearest(t, "Nearest", m, target)
		least := value(both(mirror.Far(m, target, c)).Value)
		for range 10 {
			other := someCommand(random, m)
			if random.Intn(2) == 0 { // a command near the nearest one
				other, _ = mirror.Blend(m, c, other, "1/50")
			}
			order := value(both(mirror.Far(m, target, other)).Value).Cmp(least)
			same := both(mirror.Far(m, c, other)).Value == "0"
			want(t, "another command is less near", order > 0 || same, true)
		}
	}
}

func TestNearestOfACommandIsTheCommand(t *testing.T) {
	random := rand.New(rand.NewSource(42))
	for range 200 {
		m := someMirror(random, 16)
		c := someCommand(random, m)
		want(t, "Nearest", wantNearest(t, "Nearest", m, c), c)
		c = wantNearest(t, "Nearest", m, someNumbers(random, m))
		want(t, "Nearest of the nearest", wantNearest(t, "Nearest", m, c), c)
	}
}

func TestNearestWithoutLinksIsClipped(t *testing.T) {
	random := rand.New(rand.NewSource(43))
	for range 200 {
		m := someMirror(random, 16)
		m.Links = nil
		target := someNumbers(random, m)
		want(t, "Clip", both(mirror.Clip(m, target)), is(wantNearest(t, "Nearest", m, target)))
	}
}

func TestNearestCommandsAreNotFartherApart(t *testing.T) {
	random := rand.New(rand.NewSource(44))
	for range 200 {
		m := someMirror(random, 16)
		a, b := someNumbers(random, m), someNumbers(random, m)
		targets := value(both(mirror.Far(m, a, b)).Value)
		commands := value(both(mirror.Far(m, wantNearest(t, "Nearest", m, a), wantNearest(t, "Nearest", m, b))).Value)
		want(t, "Far", commands.Cmp(targets) <= 0, true)
	}
}

func TestBlendsAreWithinTheLimits(t *testing.T) {
	random := rand.New(rand.NewSource(45))
	for range 200 {
		m := someMirror(random, 16)
		a, b := someCommand(random, m), someCommand(random, m)
		for part := range 6 {
			c, e := mirror.Blend(m, a, b, rat(big.NewRat(int64(part), 5)))
			want(t, "Blend", e, api.OK)
			want(t, "CheckCommand", mirror.CheckCommand(m, c), api.OK)
		}
	}
}

func TestSurfacesAreLinear(t *testing.T) {
	random := rand.New(rand.NewSource(46))
	for range 100 {
		m := someMirror(random, 16)
		a, b, part := someCommand(random, m), someCommand(random, m), big.NewRat(int64(random.Intn(6)), 5)
		places := somePlaces(random, 6)
		c, _ := mirror.Blend(m, a, b, rat(part))
		x, y, z := both(mirror.Surface(m, a, places)), both(mirror.Surface(m, b, places)), both(mirror.Surface(m, c, places))
		matrix, e := mirror.Matrix(m, places)
		want(t, "Matrix", e, api.OK)
		for k := range places {
			sum := plus(times(minus(integer(1), part), value(x.Value[k])), times(part, value(y.Value[k])))
			want(t, "Surface of a blend", z.Value[k], rat(sum))
			product, next := new(big.Rat), 0
			for i, free := range free(m) {
				if free {
					product, next = plus(product, times(value(matrix[k][next]), value(c[i]))), next+1
				}
			}
			want(t, "Matrix times the free numbers", rat(product), z.Value[k])
		}
	}
}

func TestSurfacesTurnWithTheMirror(t *testing.T) {
	random := rand.New(rand.NewSource(47))
	for range 100 {
		m := someMirror(random, 16)
		c, places := someCommand(random, m), somePlaces(random, 6)
		before := both(mirror.Surface(m, c, places))
		quarters := random.Intn(9) - 4
		turned, e := mirror.Turned(m, quarters)
		want(t, "Turned", e, api.OK)
		for range (quarters + 4) % 4 {
			for k, where := range places {
				places[k] = at(rat(opposite(value(where.Y))), where.X)
			}
		}
		want(t, "Surface", both(mirror.Surface(turned, c, places)), before)
		want(t, "turned back", both(mirror.Turned(turned, -quarters)), is(m))
	}
}

func TestRestsHaveNoPlane(t *testing.T) {
	random := rand.New(rand.NewSource(48))
	for range 200 {
		m := someMirror(random, 16)
		list := someNumbers(random, m)
		got := offloadOf(m, list)
		if got.Error != api.OK {
			want(t, "Offload", got, fails[rest](api.ErrSingular))
			continue
		}
		none := mirror.Plane{Piston: "0", Tip: "0", Tilt: "0"}
		want(t, "Offload of the rest", offloadOf(m, got.Value.Numbers), is(rest{got.Value.Numbers, none}))
		for i, a := range m.Actuators {
			height, _ := mirror.PlaneAt(got.Value.Plane, a.At)
			want(t, "rest and plane", rat(plus(value(got.Value.Numbers[i]), value(height))), list[i])
		}
	}
}
