package span

import (
	"math/rand"
	"strings"
	"testing"

	"lenslet/api"
	"lenslet/exact"
)

// some returns a span with small ends, often of a single number.
func some(random *rand.Rand) Span {
	low := exact.Of(random.Intn(13)-6, 1+random.Intn(4))
	if random.Intn(3) == 0 {
		return Of(low)
	}
	return Span{low, low.Add(exact.Of(random.Intn(9), 2))}
}

// members returns the ends of a span and numbers between them.
func members(s Span) []exact.Number {
	var all []exact.Number
	for k := range 5 {
		all = append(all, s.Low.Add(s.High.Sub(s.Low).Mul(exact.Of(k, 4))))
	}
	if s.Has0() {
		all = append(all, exact.Number{})
	}
	return all
}

// has reports whether a number is in a span.
func (s Span) has(a exact.Number) bool { return a.Compare(s.Low) >= 0 && a.Compare(s.High) <= 0 }

// hull is a span that grows around numbers.
type hull struct {
	span  Span
	begun bool
}

// add makes a number a member.
func (h *hull) add(a exact.Number) {
	if !h.begun {
		h.span, h.begun = Of(a), true
	}
	if a.Compare(h.span.Low) < 0 {
		h.span.Low = a
	}
	if a.Compare(h.span.High) > 0 {
		h.span.High = a
	}
}

// same reports a span that is not the expected one.
func same(t *testing.T, what string, got, wanted Span) {
	t.Helper()
	if !got.Low.Equal(wanted.Low) || !got.High.Equal(wanted.High) {
		a, _ := got.Span()
		b, _ := wanted.Span()
		t.Errorf("%s: got %v, want %v", what, a, b)
	}
}

// TestOperations compares results with the smallest spans around the results of members, among which are the
// least and the greatest ones.
func TestOperations(t *testing.T) {
	random := rand.New(rand.NewSource(1))
	for range 3000 {
		a, b := some(random), some(random)
		var sum, difference, product, quotient, square, size hull
		for _, x := range members(a) {
			square.add(x.Mul(x))
			size.add(x.Abs())
			for _, y := range members(b) {
				sum.add(x.Add(y))
				difference.add(x.Sub(y))
				product.add(x.Mul(y))
				quotient.add(x.Quo(y))
			}
		}
		same(t, "Plus", a.Plus(b), sum.span)
		same(t, "Minus", a.Minus(b), difference.span)
		same(t, "Times", a.Times(b), product.span)
		same(t, "Square", a.Square(), square.span)
		same(t, "Abs", a.Abs(), size.span)
		if b.Has0() != b.has(exact.Number{}) {
			t.Errorf("Has0 of %v", b)
		}
		if !b.Has0() {
			same(t, "Over", a.Over(b), quotient.span)
		}
	}
}

func TestStrings(t *testing.T) {
	long := api.Rat("1" + strings.Repeat("0", api.MaxDigits))
	for _, row := range []struct {
		s api.Span
		e api.Errno
	}{
		{api.Span{Low: "-1/2", High: "3"}, api.OK},
		{api.Span{Low: "3", High: "3"}, api.OK},
		{api.Span{}, api.ErrForm},
		{api.Span{Low: long, High: "?"}, api.ErrLarge},
		{api.Span{Low: "3", High: "?"}, api.ErrForm},
		{api.Span{Low: "3", High: "2"}, api.ErrOrder},
	} {
		s, e := Parse(row.s)
		if e != row.e {
			t.Errorf("Parse of %v: error %d", row.s, e)
		}
		again, wrong := s.Span()
		if e == api.OK && (again != row.s || wrong != api.OK) {
			t.Errorf("Span of %v: got %v, error %d", row.s, again, wrong)
		}
		box, e := ParseBox(api.Box{Re: api.Span{Low: "1", High: "2"}, Im: row.s})
		if e != row.e {
			t.Errorf("ParseBox with %v: error %d", row.s, e)
		}
		same(t, "part of ParseBox", box.Im, s)
	}
	if _, e := ParseBox(api.Box{Re: api.Span{Low: "2", High: "1"}}); e != api.ErrOrder {
		t.Errorf("ParseBox: error %d", e)
	}
	nines, _ := exact.Parse(api.Rat(strings.Repeat("9", api.MaxDigits)))
	large := Span{exact.Number{}, nines.Add(exact.Of(1, 1))}
	if s, e := large.Span(); e != api.ErrLarge || s != (api.Span{}) {
		t.Errorf("Span with 601 digits: %v, error %d", s, e)
	}
	if b, e := (Box{large, Span{}}).Box(); e != api.ErrLarge || b != (api.Box{}) {
		t.Errorf("Box with 601 digits: %v, error %d", b, e)
	}
	if b, e := (Box{Span{}, large}).Box(); e != api.ErrLarge || b != (api.Box{}) {
		t.Errorf("Box with 601 digits: %v, error %d", b, e)
	}
}

func TestBoxes(t *testing.T) {
	random := rand.New(rand.NewSource(2))
	for range 500 {
		a, b := Box{some(random), some(random)}, Box{some(random), some(random)}
		sum, difference, product, conjugate := a.Plus(b), a.Minus(b), a.Times(b), a.Conjugate()
		same(t, "Plus", sum.Re, a.Re.Plus(b.Re))
		same(t, "Plus", sum.Im, a.Im.Plus(b.Im))
		same(t, "Minus", difference.Re, a.Re.Minus(b.Re))
		same(t, "Minus", difference.Im, a.Im.Minus(b.Im))
		same(t, "Times", product.Re, a.Re.Times(b.Re).Minus(a.Im.Times(b.Im)))
		same(t, "Times", product.Im, a.Re.Times(b.Im).Plus(a.Im.Times(b.Re)))
		same(t, "Conjugate", conjugate.Re, a.Re)
		same(t, "Conjugate", conjugate.Im, Span{}.Minus(a.Im))
		same(t, "Norm", a.Norm(), a.Re.Square().Plus(a.Im.Square()))
	}
}
