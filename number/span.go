package number

import (
	"lenslet/api"
	"lenslet/check"
	"lenslet/exact"
	"lenslet/span"
	"lenslet/whole"
)

// pairOfSpans returns two spans, or the first error of their strings.
func pairOfSpans(a, b api.Span) (span.Span, span.Span, api.Errno) {
	x, wrongA := span.Parse(a)
	y, wrongB := span.Parse(b)
	return x, y, check.First(wrongA, wrongB)
}

// operateOnSpans returns the result of an operation on two spans.
func operateOnSpans(a, b api.Span, operation func(x, y span.Span) span.Span) (api.Span, api.Errno) {
	x, y, e := pairOfSpans(a, b)
	if e != api.OK {
		return api.Span{}, e
	}
	return operation(x, y).Span()
}

// CheckSpan returns the first error of a span, or OK.
func CheckSpan(s api.Span) api.Errno {
	_, e := span.Parse(s)
	return e
}

// Plus returns the sum of two spans.
func Plus(a, b api.Span) (api.Span, api.Errno) { return operateOnSpans(a, b, span.Span.Plus) }

// Minus returns the difference of two spans.
func Minus(a, b api.Span) (api.Span, api.Errno) { return operateOnSpans(a, b, span.Span.Minus) }

// Times returns the product of two spans.
func Times(a, b api.Span) (api.Span, api.Errno) { return operateOnSpans(a, b, span.Span.Times) }

// Over returns the quotient of two spans.
func Over(a, b api.Span) (api.Span, api.Errno) {
	x, y, e := pairOfSpans(a, b)
	switch {
	case e != api.OK:
		return api.Span{}, e
	case y.Has0():
		return api.Span{}, api.ErrZero
	}
	return x.Over(y).Span()
}

// Square returns the square of a span.
func Square(a api.Span) (api.Span, api.Errno) {
	x, e := span.Parse(a)
	if e != api.OK {
		return api.Span{}, e
	}
	return x.Square().Span()
}

// Compare compares two spans.
func Compare(a, b api.Span) (int, api.Errno) {
	x, y, e := pairOfSpans(a, b)
	switch {
	case e != api.OK:
		return 0, e
	case x.High.Compare(y.Low) < 0:
		return -1, api.OK
	case x.Low.Compare(y.High) > 0:
		return 1, api.OK
	case a == b && a.Low == a.High:
		return 0, api.OK
	}
	return 0, api.ErrOpen
}

// checkDecimals returns the error of a number of decimals, or OK.
func checkDecimals(decimals int) api.Errno {
	if decimals < 1 || decimals > MaxDecimals {
		return api.ErrRange
	}
	return api.OK
}

// step returns the span from n to n + 1 units, where so many units are 1.
func step(n, units whole.Int) (api.Span, api.Errno) {
	return span.Span{Low: exact.New(n, units), High: exact.New(n.Add(whole.Of(1)), units)}.Span()
}

// Root returns a span that contains the square root of a number.
func Root(a api.Rat, decimals int) (api.Span, api.Errno) {
	x, e := exact.Parse(a)
	if e == api.OK && x.Sign() < 0 {
		e = api.ErrRange
	}
	if e = check.First(e, checkDecimals(decimals)); e != api.OK {
		return api.Span{}, e
	}
	above, below := x.Above().Root(), x.Below().Root()
	root := exact.New(above, below)
	if root.Mul(root).Compare(x) == 0 {
		return span.Of(root).Span()
	}
	units := whole.Power(10, decimals)
	return step(x.Above().Mul(units).Mul(units).Floor(x.Below()).Root(), units)
}
