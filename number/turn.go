package number

import (
	"lenslet/api"
	"lenslet/check"
	"lenslet/exact"
	"lenslet/whole"
)

// Cos returns a span that contains the cosine of a turn.
func Cos(turn api.Rat, decimals int) (api.Span, api.Errno) {
	t, e := readTurn(turn, decimals)
	if e != api.OK {
		return api.Span{}, e
	}
	return cosine(t, decimals)
}

// Sin returns a span that contains the sine of a turn.
func Sin(turn api.Rat, decimals int) (api.Span, api.Errno) {
	t, e := readTurn(turn, decimals)
	if e != api.OK {
		return api.Span{}, e
	}
	return cosine(t.Sub(exact.Of(1, 4)), decimals)
}

// readTurn returns a turn, or the first error of it and of the decimals.
func readTurn(turn api.Rat, decimals int) (exact.Number, api.Errno) {
	t, e := exact.Parse(turn)
	if e == api.OK && t.Below().Compare(whole.Of(api.MaxNumber)) > 0 {
		e = api.ErrLarge
	}
	return t, check.First(e, checkDecimals(decimals))
}

// exactCosine returns the cosine of a turn from 0 to 1/2 if it is a rational number, and whether it is.
func exactCosine(t exact.Number) (api.Rat, bool) {
	cosines := map[api.Rat]api.Rat{"0": "1", "1/6": "1/2", "1/4": "0", "1/3": "-1/2", "1/2": "-1"}
	turn, e := t.Rat()
	known, found := cosines[turn]
	return known, found && e == api.OK
}

// cosine returns the cosine of a turn with decimals.
func cosine(t exact.Number, decimals int) (api.Span, api.Errno) {
	half := exact.Of(1, 2)
	t = t.Sub(exact.Whole(t.Floor()))
	if t.Compare(half) > 0 {
		t = exact.Of(1, 1).Sub(t)
	}
	if known, found := exactCosine(t); found {
		return api.Span{Low: known, High: known}, api.OK
	}
	negative := t.Compare(exact.Of(1, 4)) > 0
	if negative {
		t = half.Sub(t)
	}
	precisions := [...]int{20, 40, 80, 160}
	var n whole.Int
search: // it ends, as the cosine is irrational
	for factor := 1; ; factor *= 16 {
		for _, precision := range precisions {
			digits := factor * precision
			b := cosineBounds(t, digits)
			if negative {
				b = bounds{b.high.Neg(), b.low.Neg()}
			}
			coarse := whole.Power(10, digits-decimals)
			n = b.low.Floor(coarse)
			if n.Compare(b.high.Floor(coarse)) == 0 {
				break search
			}
		}
	}
	return step(n, whole.Power(10, decimals))
}

// bounds are two integers between which a number lies, in units that are a power of 1/10.
type bounds struct {
	low, high whole.Int
}

// arctangent returns bounds of the arctangent of 1/n, where so many units are 1.
func arctangent(n int, units whole.Int) bounds {
	square := whole.Of(n * n)
	var sum whole.Int
	slack := whole.Of(1) // for the terms that are left out: they alternate, and are below 1
	power := units.Quo(whole.Of(n))
	for k := 1; power.Sign() > 0; k += 2 {
		term := power.Quo(whole.Of(k))
		if k%4 == 3 {
			term = term.Neg()
		}
		sum = sum.Add(term)
		slack = slack.Add(whole.Of(1)) // for what is cut off from the term
		power = power.Quo(square)
	}
	return bounds{sum.Sub(slack), sum.Add(slack)}
}

// fullAngle returns bounds of 2 pi, by Machin's formula.
func fullAngle(units whole.Int) bounds {
	a, b := arctangent(5, units), arctangent(239, units)
	many, few := whole.Of(32), whole.Of(8)
	return bounds{
		a.low.Mul(many).Sub(b.high.Mul(few)),
		a.high.Mul(many).Sub(b.low.Mul(few)),
	}
}

// cosineBounds returns bounds of the cosine of a turn between 0 and 1/4, in units of so many
// digits, by the power series.
func cosineBounds(t exact.Number, digits int) bounds {
	one, units := whole.Of(1), whole.Power(10, digits)
	full := fullAngle(units)
	low := full.low.Mul(t.Above()).Quo(t.Below())
	high := full.high.Mul(t.Above()).Quo(t.Below()).Add(one)
	square := bounds{low.Mul(low).Quo(units), high.Mul(high).Quo(units).Add(one)}
	term, sum := bounds{units, units}, bounds{units, units}
	for k := 1; term.high.Compare(one) > 0; k += 2 {
		divisor := units.Mul(whole.Of(k * (k + 1)))
		term = bounds{
			term.low.Mul(square.low).Quo(divisor),
			term.high.Mul(square.high).Quo(divisor).Add(one),
		}
		if k%4 == 1 {
			sum = bounds{sum.low.Sub(term.high), sum.high.Sub(term.low)}
		} else {
			sum = bounds{sum.low.Add(term.low), sum.high.Add(term.high)}
		}
	}
	// The terms that are left out alternate and decrease, and are below 1.
	return bounds{sum.low.Sub(one), sum.high.Add(one)}
}
