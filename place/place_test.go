package place

import (
	"strings"
	"testing"

	"lenslet/api"
	"lenslet/exact"
)

// at returns a place of strings.
func at(x, y api.Rat) api.Place { return api.Place{X: x, Y: y} }

// parsed returns a place of strings as a place.
func parsed(t *testing.T, p api.Place) Place {
	t.Helper()
	where, e := Parse(p)
	if e != api.OK {
		t.Fatalf("Parse of %v: %d", p, e)
	}
	return where
}

func TestStrings(t *testing.T) {
	nines, long := api.Rat(strings.Repeat("9", api.MaxDigits)), api.Rat("1"+strings.Repeat("0", api.MaxDigits))
	for _, row := range []struct {
		p api.Place
		e api.Errno
	}{
		{at("1/2", "-3"), api.OK},
		{at("0", "-1/"+nines), api.OK},
		{api.Place{}, api.ErrForm},
		{at("1", "2/4"), api.ErrForm},
		{at(long, "?"), api.ErrLarge},
		{at("?", long), api.ErrForm},
		{at("1", long), api.ErrLarge},
	} {
		p, e := Parse(row.p)
		if e != row.e {
			t.Errorf("Parse of %v: %d, want %d", row.p, e, row.e)
		}
		again, wrong := p.Place()
		if e == api.OK && (again != row.p || wrong != api.OK) {
			t.Errorf("Place of %v: %v, %d", row.p, again, wrong)
		}
		if e != api.OK && again != at("0", "0") {
			t.Errorf("Parse of %v: %v beside an error", row.p, again)
		}
	}
	for _, p := range []api.Place{at(nines, "1"), at("1", nines)} {
		ten := parsed(t, p).Times(exact.Of(10, 1))
		if again, e := ten.Place(); e != api.ErrLarge || again != (api.Place{}) {
			t.Errorf("Place with 601 digits: %v, %d", again, e)
		}
	}
}

func TestOperations(t *testing.T) {
	p, q := parsed(t, at("1/2", "-3")), parsed(t, at("1/3", "4"))
	for _, row := range []struct {
		what   string
		got    Place
		wanted api.Place
	}{
		{"Plus", p.Plus(q), at("5/6", "1")},
		{"Minus", p.Minus(q), at("1/6", "-7")},
		{"Times", p.Times(exact.Of(-2, 3)), at("-1/3", "2")},
		{"Times 0", p.Times(exact.Number{}), at("0", "0")},
	} {
		if got, e := row.got.Place(); e != api.OK || got != row.wanted {
			t.Errorf("%s: got %v, %d, want %v", row.what, got, e, row.wanted)
		}
	}
}
