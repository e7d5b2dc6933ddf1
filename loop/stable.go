package loop

import (
	"slices"

	"lenslet/api"
	"lenslet/check"
	"lenslet/exact"
	"lenslet/span"
	"lenslet/whole"
)

// verdict is what spans tell of all polynomials with coefficients in them.
type verdict int

// Verdicts.
const (
	undecided verdict = iota
	stable
	unstable
)

// singles returns the spans of single numbers.
func singles(p []exact.Number) []span.Span {
	spans := make([]span.Span, len(p))
	for k, a := range p {
		spans[k] = span.Of(a)
	}
	return spans
}

// integral returns a multiple of spans whose ends are integers.
func integral(p []span.Span) []span.Span {
	var ends []exact.Number
	for _, s := range p {
		ends = append(ends, s.Low, s.High)
	}
	common := span.Of(exact.Whole(exact.Common(ends)))
	multiple := make([]span.Span, len(p))
	for k, s := range p {
		multiple[k] = s.Times(common)
	}
	return multiple
}

// reduced returns the polynomial of the next lower degree (Schur's and Cohn's): if the first coefficient
// of a polynomial is smaller than the last one, it is stable exactly if its reduced one is.
func reduced(p []span.Span) []span.Span {
	n := len(p) - 1
	first, last := p[0], p[n]
	q := make([]span.Span, n)
	for k := range n {
		q[k] = last.Times(p[k+1]).Minus(first.Times(p[n-1-k]))
	}
	return q
}

// judge returns the verdict for spans. What is reduced is refined, to other spans with the same verdict,
// or with wider ones.
func judge(p []span.Span, refine func([]span.Span) []span.Span) verdict {
	result := stable
reduction:
	for len(p) > 1 {
		first, last := p[0].Abs(), p[len(p)-1].Abs()
		switch {
		case first.Low.Compare(last.High) >= 0:
			result = unstable
			break reduction
		case first.High.Compare(last.Low) >= 0:
			result = undecided
			break reduction
		case len(p) == 2: // nothing is left to compare at the degree 0
			break reduction
		}
		p = refine(reduced(p))
	}
	return result
}

// unchanged is no refinement.
func unchanged(p []span.Span) []span.Span { return p }

// dividing returns a refinement of single integers: they are divided by the last coefficient of the
// polynomial two reductions before, which divides them all, as they are minors of one matrix.
func dividing() func([]span.Span) []span.Span {
	before, last := whole.Of(1), whole.Of(1)
	return func(p []span.Span) []span.Span {
		divided := make([]span.Span, len(p))
		for k, s := range p {
			divided[k] = span.Of(exact.Whole(s.Low.Above().Quo(before)))
		}
		before, last = last, divided[len(p)-1].Low.Above()
		return divided
	}
}

// size returns the number of binary digits of the greatest end, where the ends are integers.
func size(p []span.Span) int {
	var n int
	for _, s := range p {
		n = max(n, s.Low.Above().BitLen(), s.High.Above().BitLen())
	}
	return n
}

// rounding returns a refinement of integers to so many binary digits, which widens the spans.
func rounding(bits int) func([]span.Span) []span.Span {
	return func(p []span.Span) []span.Span {
		unit := whole.Of(1).Shifted(size(p) - bits)
		rounded := make([]span.Span, len(p))
		for k, s := range p {
			low, high := s.Low.Above().Floor(unit), s.High.Above().Neg().Floor(unit).Neg()
			rounded[k] = span.Span{Low: exact.Whole(low), High: exact.Whole(high)}
		}
		return rounded
	}
}

// roughBits is the number of binary digits with which large coefficients are judged first.
const roughBits = 256

// decide returns the verdict for spans with a refinement. As few digits often suffice for it, large
// coefficients are judged with few digits first, and with more as long as these do not decide.
func decide(p []span.Span, refine func([]span.Span) []span.Span) verdict {
	p = integral(p)
	for bits := roughBits; bits < size(p); bits *= 4 {
		round := rounding(bits)
		if v := judge(round(p), round); v != undecided {
			return v
		}
	}
	return judge(p, refine)
}

// isStable reports whether a polynomial is stable.
func isStable(p []exact.Number) bool { return decide(singles(p), dividing()) == stable }

// Stable reports whether all roots of a polynomial lie within the unit circle.
func Stable(p []api.Rat) (bool, api.Errno) {
	coefficients, e := readPoly(p)
	if e != api.OK {
		return false, e
	}
	return isStable(coefficients), api.OK
}

// withoutFractions returns a multiple of a polynomial whose coefficients are integers.
func withoutFractions(p []exact.Number) []exact.Number {
	common := exact.Common(p)
	integers := make([]exact.Number, len(p))
	for k, a := range terms(p) {
		integers[k] = exact.Whole(multiple(a, common))
	}
	return integers
}

// within reports whether all roots of a polynomial have a magnitude less than n units, where so many
// units are 1.
func within(p []exact.Number, n, units whole.Int) bool {
	// The coefficients times powers of n, and those of units in the other direction, are a multiple of
	// those of the polynomial scaled by n / units, without fractions.
	q := slices.Clone(p)
	slices.Reverse(q)
	q = scaled(q, exact.Whole(units))
	slices.Reverse(q)
	return isStable(scaled(q, exact.Whole(n)))
}

// beyond returns a power of 2 that is above the magnitudes of all roots. These are at most twice the
// greatest of the roots, each of the degree of its missing powers, of the coefficients divided by the last
// one (Fujiwara's bound).
func beyond(p []exact.Number) whole.Int {
	last := len(p) - 1
	var exponent int
	for k, a := range terms(p[:last]) {
		quotient := a.Quo(p[last])
		// The magnitude of the quotient is below 2 to the power of the bits.
		bits := max(0, quotient.Above().BitLen()-quotient.Below().BitLen()+1)
		degree := last - k
		exponent = max(exponent, (bits+degree-1)/degree+1)
	}
	return whole.Of(1).Shifted(exponent)
}

// least returns the least integer above 0 for which a condition holds that holds for all greater ones
// too, and for a given one.
func least(high whole.Int, holds func(whole.Int) bool) whole.Int {
	var low whole.Int
	for {
		middle := low.Add(high).Quo(whole.Of(2))
		switch {
		case middle.Compare(low) == 0:
			return high
		case holds(middle):
			high = middle
		default:
			low = middle
		}
	}
}

// radius returns the span of the greatest magnitude of the roots, or ErrLarge.
func radius(p []exact.Number, decimals int) (api.Span, api.Errno) {
	units := whole.Power(10, decimals)
	p = withoutFractions(p)
	isWithin := func(n whole.Int) bool { return within(p, n, units) }
	high, tooLarge := beyond(p).Mul(units), whole.Power(10, api.MaxDigits).Mul(units)
	if high.Compare(tooLarge) > 0 { // then a single test may save thousands
		if !isWithin(tooLarge) {
			return api.Span{}, api.ErrLarge
		}
		high = tooLarge
	}
	end := least(high, isWithin)
	start := end.Sub(whole.Of(1))
	return span.Span{Low: exact.New(start, units), High: exact.New(end, units)}.Span()
}

// Radius returns a span with the greatest magnitude of the roots of a polynomial.
func Radius(p []api.Rat, decimals int) (api.Span, api.Errno) {
	coefficients, wrongP := readPoly(p)
	e := check.First(wrongP, check.Range(decimals, 1, 3), check.If(len(p) == 1, api.ErrNone))
	if e != api.OK {
		return api.Span{}, e
	}
	return radius(coefficients, decimals)
}
