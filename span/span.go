// Package span computes with intervals of numbers of any size, and with boxes of complex numbers,
// without the limits of api.Span and api.Box.
package span

import (
	"lenslet/api"
	"lenslet/check"
	"lenslet/exact"
)

// Span is the set of the numbers from Low to High.
type Span struct {
	Low, High exact.Number
}

// Of returns the span of a single number.
func Of(a exact.Number) Span { return Span{a, a} }

// Parse returns the span that a span of strings stands for, or its first error.
func Parse(s api.Span) (Span, api.Errno) {
	low, wrongLow := exact.Parse(s.Low)
	high, wrongHigh := exact.Parse(s.High)
	e := check.First(wrongLow, wrongHigh, check.If(low.Compare(high) > 0, api.ErrOrder))
	if e != api.OK {
		return Span{}, e
	}
	return Span{low, high}, api.OK
}

// Span returns the strings of a span, or ErrLarge if a number of them has too many digits.
func (s Span) Span() (api.Span, api.Errno) {
	low, wrongLow := s.Low.Rat()
	high, wrongHigh := s.High.Rat()
	if e := check.First(wrongLow, wrongHigh); e != api.OK {
		return api.Span{}, e
	}
	return api.Span{Low: low, High: high}, api.OK
}

// Has0 reports whether 0 is in a span.
func (s Span) Has0() bool { return s.Low.Sign() <= 0 && s.High.Sign() >= 0 }

// isSingle reports whether a span is a single number.
func (s Span) isSingle() bool { return s.Low.Equal(s.High) }

// corners returns the span of all results of an operation, which has its least and its greatest
// result at ends of the spans.
func corners(a, b Span, operation func(x, y exact.Number) exact.Number) Span {
	at := operation(a.Low, b.Low)
	all := Span{at, at}
	if a.isSingle() && b.isSingle() {
		return all
	}
	for _, at := range [...]exact.Number{operation(a.Low, b.High), operation(a.High, b.Low), operation(a.High, b.High)} {
		if at.Compare(all.Low) < 0 {
			all.Low = at
		}
		if at.Compare(all.High) > 0 {
			all.High = at
		}
	}
	return all
}

// Plus returns the sum of two spans.
func (s Span) Plus(other Span) Span { return Span{s.Low.Add(other.Low), s.High.Add(other.High)} }

// Minus returns the difference of two spans.
func (s Span) Minus(other Span) Span { return Span{s.Low.Sub(other.High), s.High.Sub(other.Low)} }

// Times returns the product of two spans.
func (s Span) Times(other Span) Span { return corners(s, other, exact.Number.Mul) }

// Over returns the quotient of two spans, of which the second one does not contain 0.
func (s Span) Over(other Span) Span { return corners(s, other, exact.Number.Quo) }

// Abs returns the magnitudes of the members of a span.
func (s Span) Abs() Span {
	low, high := s.Low.Abs(), s.High.Abs()
	if low.Compare(high) > 0 {
		low, high = high, low
	}
	if s.Has0() {
		low = exact.Number{}
	}
	return Span{low, high}
}

// Square returns the squares of the members of a span.
func (s Span) Square() Span {
	size := s.Abs()
	return Span{size.Low.Square(), size.High.Square()}
}
