package loop

import (
	"lenslet/api"
	"lenslet/check"
	"lenslet/exact"
	"lenslet/number"
	"lenslet/sample"
	"lenslet/span"
	"lenslet/total"
	"lenslet/whole"
)

// sweepDecimals is the number of decimals of the cosines and sines of a sweep.
const sweepDecimals = 12

// turned returns the box of the complex number of magnitude 1 at a turn, whose denominator is at most
// api.MaxNumber.
func turned(turn exact.Number, decimals int) (span.Box, api.Errno) {
	// Whole turns change nothing, but they may have too many digits for a number.
	part, wrongPart := turn.Sub(exact.Whole(turn.Floor())).Rat()
	box, wrongTurn := number.Turn(part, decimals)
	b, wrongBox := span.ParseBox(box)
	return b, check.First(wrongPart, wrongTurn, wrongBox)
}

// times returns the products of a number and the members of a box.
func times(a exact.Number, b span.Box) span.Box {
	factor := span.Of(a)
	return span.Box{Re: factor.Times(b.Re), Im: factor.Times(b.Im)}
}

// valueAt returns the box of a polynomial at the complex number of magnitude 1 at a turn.
func valueAt(p []exact.Number, turn exact.Number, decimals int) (span.Box, api.Errno) {
	var parts []span.Box
	for power, a := range terms(p) {
		b, e := turned(turn.Mul(exact.Of(power, 1)), decimals)
		if e != api.OK {
			return span.Box{}, e
		}
		parts = append(parts, times(a, b))
	}
	return total.Of(parts, span.Box.Plus), api.OK
}

// Rejection returns a span with the squared magnitude of the rejection at a frequency.
func Rejection(l Loop, turn api.Rat, decimals int) (api.Span, api.Errno) {
	s, wrongLoop := readLoop(l)
	t, wrongTurn := exact.Parse(turn)
	e := check.First(
		wrongLoop,
		wrongTurn,
		check.Range(decimals, 1, number.MaxDecimals),
		check.If(t.Below().Compare(whole.Of(api.MaxNumber)) > 0, api.ErrLarge),
	)
	if e != api.OK {
		return api.Span{}, e
	}
	above, wrongAbove := valueAt([]exact.Number{s.leak.Neg(), one()}, t, decimals)
	below, wrongBelow := valueAt(s.closed(), t, decimals)
	e = check.First(wrongAbove, wrongBelow, check.If(below.Norm().Has0(), api.ErrZero))
	if e != api.OK {
		return api.Span{}, e
	}
	return above.Norm().Over(below.Norm()).Span()
}

// response is the rejection at a frequency: the boxes of its numerator and its denominator.
type response struct {
	above, below span.Box
}

// respond returns the response at a frequency of a sweep of n frequencies.
func (s system) respond(k, n int) (response, api.Errno) {
	numerator := make([]exact.Number, s.delay+3)
	numerator[s.delay+2], numerator[s.delay+1] = one(), s.leak.Neg()
	turn := exact.Of(k, 2*n)
	above, wrongAbove := valueAt(numerator, turn, sweepDecimals)
	below, wrongBelow := valueAt(s.closed(), turn, sweepDecimals)
	return response{above, below}, check.First(wrongAbove, wrongBelow)
}

// scale returns 2 plus the sum of the magnitudes of the coefficients of the closed polynomial.
func (s system) scale() exact.Number {
	sum := exact.Of(2, 1)
	for _, a := range terms(s.closed()) {
		sum = sum.Add(a.Abs())
	}
	return sum
}

// value is a complex number with exact parts.
type value struct {
	re, im exact.Number
}

// readValue returns the exact value of a complex number, or ErrForm if a part is a NaN or an infinity.
func readValue(c complex128) (value, api.Errno) {
	re, wrongRe := sample.Double(real(c))
	im, wrongIm := sample.Double(imag(c))
	return value{re, im}, check.First(wrongRe, wrongIm)
}

// middle returns the middle of a box.
func middle(b span.Box) value {
	half := exact.Of(1, 2)
	return value{b.Re.Low.Add(b.Re.High).Mul(half), b.Im.Low.Add(b.Im.High).Mul(half)}
}

// box returns the box of a complex number alone.
func (v value) box() span.Box { return span.Box{Re: span.Of(v.re), Im: span.Of(v.im)} }

// norm returns the squared magnitude.
func (v value) norm() exact.Number { return v.re.Square().Add(v.im.Square()) }

// nearest returns the complex number with the nearest floats, or ErrLarge if there are none.
func (v value) nearest() (complex128, api.Errno) {
	re, wrongRe := sample.NearestDouble(v.re)
	im, wrongIm := sample.NearestDouble(v.im)
	return complex(re, im), check.First(wrongRe, wrongIm)
}

// halves returns the power of 1/2 with an exponent.
func halves(exponent int) exact.Number { return exact.New(whole.Of(1), whole.Power(2, exponent)) }

// quotient returns a number that is accepted as the response of a stable loop, where the scale is that of
// the loop.
func (r response) quotient(scale exact.Number) (complex128, api.Errno) {
	above, below := middle(r.above), middle(r.below)
	size := below.norm()
	if size.Compare(scale.Mul(halves(36)).Square()) < 0 {
		// Next to a root the quotient may be too large for a float. As its tolerance grows with a number,
		// each one of this magnitude is accepted.
		return 1 << 31, api.OK
	}
	product := value{
		above.re.Mul(below.re).Add(above.im.Mul(below.im)),
		above.im.Mul(below.re).Sub(above.re.Mul(below.im)),
	}
	return value{product.re.Quo(size), product.im.Quo(size)}.nearest()
}

// accepts reports whether a number is near enough to a response, where the scale is that of the loop.
func (r response) accepts(v value, scale exact.Number) bool {
	off := v.box().Times(r.below).Minus(r.above)
	tolerance := halves(30).Mul(one().Add(v.re.Abs()).Add(v.im.Abs())).Mul(scale)
	return off.Re.Abs().High.Compare(tolerance) <= 0 && off.Im.Abs().High.Compare(tolerance) <= 0
}

// Sweep returns the rejection at n frequencies.
func Sweep(l Loop, n int) ([]complex128, api.Errno) {
	s, e := readLoop(l)
	e = check.First(e, check.Range(n, 1, MaxSweep))
	switch {
	case e != api.OK:
		return nil, e
	case !s.isStable():
		return nil, api.ErrUnstable
	}
	all := make([]complex128, n)
	for k := range n {
		r, wrongResponse := s.respond(k, n)
		c, wrongQuotient := r.quotient(s.scale())
		if e := check.First(wrongResponse, wrongQuotient); e != api.OK {
			return nil, e
		}
		all[k] = c
	}
	return all, api.OK
}

// CheckSweep returns OK if complex numbers are the rejection at as many frequencies, within the tolerance.
func CheckSweep(l Loop, c []complex128) api.Errno {
	s, wrongLoop := readLoop(l)
	if e := check.First(wrongLoop, check.Count(len(c), MaxSweep)); e != api.OK {
		return e
	}
	values, e := check.Each(c, readValue)
	switch {
	case e != api.OK:
		return e
	case !s.isStable():
		return api.ErrUnstable
	}
	for k, v := range values {
		r, e := s.respond(k, len(values))
		if e = check.First(e, check.If(!r.accepts(v, s.scale()), api.ErrProof)); e != api.OK {
			return e
		}
	}
	return api.OK
}
