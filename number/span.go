package number

import (
	"lenslet/api"
	"lenslet/check"
	"lenslet/exact"
	"lenslet/whole"
)

// interval is a span whose ends may have any number of digits.
type interval struct {
	low, high exact.Number
}

// readSpan returns a span as an interval, or the first error of the span.
func readSpan(s api.Span) (interval, api.Errno) {
	low, high, e := pair(s.Low, s.High)
	switch {
	case e != api.OK:
		return interval{}, e
	case low.Compare(high) > 0:
		return interval{}, api.ErrOrder
	}
	return interval{low, high}, api.OK
}

// span returns an interval as a span, or ErrLarge.
func (i interval) span() (api.Span, api.Errno) {
	low, wrongLow := i.low.Rat()
	high, wrongHigh := i.high.Rat()
	if e := check.First(wrongLow, wrongHigh); e != api.OK {
		return api.Span{}, e
	}
	return api.Span{Low: low, High: high}, api.OK
}

// has0 reports whether 0 is in an interval.
func (i interval) has0() bool { return i.low.Sign() <= 0 && i.high.Sign() >= 0 }

// corners returns the interval of all results of an operation, which has its least and its
// greatest result at ends of the intervals.
func corners(a, b interval, operation func(x, y exact.Number) exact.Number) interval {
	at := operation(a.low, b.low)
	all := interval{at, at}
	for _, at := range [...]exact.Number{operation(a.low, b.high), operation(a.high, b.low), operation(a.high, b.high)} {
		if at.Compare(all.low) < 0 {
			all.low = at
		}
		if at.Compare(all.high) > 0 {
			all.high = at
		}
	}
	return all
}

// plus returns the sum of two intervals.
func (i interval) plus(other interval) interval { return corners(i, other, exact.Number.Add) }

// minus returns the difference of two intervals.
func (i interval) minus(other interval) interval { return corners(i, other, exact.Number.Sub) }

// times returns the product of two intervals.
func (i interval) times(other interval) interval { return corners(i, other, exact.Number.Mul) }

// over returns the quotient of two intervals, of which the second one does not contain 0.
func (i interval) over(other interval) interval { return corners(i, other, exact.Number.Quo) }

// squared returns the squares of the members of an interval.
func (i interval) squared() interval {
	low, high := i.low.Mul(i.low), i.high.Mul(i.high)
	if low.Compare(high) > 0 {
		low, high = high, low
	}
	if i.has0() {
		low = exact.Number{}
	}
	return interval{low, high}
}

// pairOfSpans returns two spans as intervals, or their first error.
func pairOfSpans(a, b api.Span) (interval, interval, api.Errno) {
	x, wrongA := readSpan(a)
	y, wrongB := readSpan(b)
	return x, y, check.First(wrongA, wrongB)
}

// operateOnSpans returns the result of an operation on two spans.
func operateOnSpans(a, b api.Span, operation func(x, y interval) interval) (api.Span, api.Errno) {
	x, y, e := pairOfSpans(a, b)
	if e != api.OK {
		return api.Span{}, e
	}
	return operation(x, y).span()
}

// CheckSpan returns the first error of a span, or OK.
func CheckSpan(s api.Span) api.Errno {
	_, e := readSpan(s)
	return e
}

// Plus returns the sum of two spans.
func Plus(a, b api.Span) (api.Span, api.Errno) { return operateOnSpans(a, b, interval.plus) }

// Minus returns the difference of two spans.
func Minus(a, b api.Span) (api.Span, api.Errno) { return operateOnSpans(a, b, interval.minus) }

// Times returns the product of two spans.
func Times(a, b api.Span) (api.Span, api.Errno) { return operateOnSpans(a, b, interval.times) }

// Over returns the quotient of two spans.
func Over(a, b api.Span) (api.Span, api.Errno) {
	x, y, e := pairOfSpans(a, b)
	switch {
	case e != api.OK:
		return api.Span{}, e
	case y.has0():
		return api.Span{}, api.ErrZero
	}
	return x.over(y).span()
}

// Square returns the square of a span.
func Square(a api.Span) (api.Span, api.Errno) {
	x, e := readSpan(a)
	if e != api.OK {
		return api.Span{}, e
	}
	return x.squared().span()
}

// Compare compares two spans.
func Compare(a, b api.Span) (int, api.Errno) {
	x, y, e := pairOfSpans(a, b)
	switch {
	case e != api.OK:
		return 0, e
	case x.high.Compare(y.low) < 0:
		return -1, api.OK
	case x.low.Compare(y.high) > 0:
		return 1, api.OK
	case a == b && a.Low == a.High:
		return 0, api.OK
	}
	return 0, api.ErrOpen
}

// checkDecimals returns the error of a number of decimals, or OK.
func checkDecimals(decimals int) api.Errno {
	if decimals < 1 || decimals > MaxDecimals {
		return api.ErrRange
	}
	return api.OK
}

// step returns the span from n to n + 1 units, where so many units are 1.
func step(n, units whole.Int) (api.Span, api.Errno) {
	return interval{exact.New(n, units), exact.New(n.Add(whole.Of(1)), units)}.span()
}

// Root returns a span that contains the square root of a number.
func Root(a api.Rat, decimals int) (api.Span, api.Errno) {
	x, e := exact.Parse(a)
	if e == api.OK && x.Sign() < 0 {
		e = api.ErrRange
	}
	if e = check.First(e, checkDecimals(decimals)); e != api.OK {
		return api.Span{}, e
	}
	above, below := x.Above().Root(), x.Below().Root()
	root := exact.New(above, below)
	if root.Mul(root).Compare(x) == 0 {
		return interval{root, root}.span()
	}
	units := whole.Power(10, decimals)
	return step(x.Above().Mul(units).Mul(units).Floor(x.Below()).Root(), units)
}
