package number_test

import (
	"math/big"
	"math/rand"
	"strings"
	"testing"

	"lenslet/api"
	"lenslet/number"
)

// P1.2

func TestCheckSpan(t *testing.T) {
	for _, row := range []struct {
		s api.Span
		e api.Errno
	}{
		{span("1", "2"), api.OK},
		{span("-1/2", "-1/3"), api.OK},
		{point("3"), api.OK},
		{span("2", "1"), api.ErrOrder},
		{span("-1/3", "-1/2"), api.ErrOrder},
		{api.Span{}, api.ErrForm},
		{span("x", digits601), api.ErrForm},
		{span(digits601, "x"), api.ErrLarge},
		{span("5", digits601), api.ErrLarge},
		{span("5", "2/4"), api.ErrForm},
	} {
		want(t, "CheckSpan", number.CheckSpan(row.s), row.e)
	}
}

// operations are the operations on spans, each with that on numbers.
func operations() map[string]struct {
	spans   func(a, b api.Span) (api.Span, api.Errno)
	numbers func(z, x, y *big.Rat) *big.Rat
} {
	return map[string]struct {
		spans   func(a, b api.Span) (api.Span, api.Errno)
		numbers func(z, x, y *big.Rat) *big.Rat
	}{
		"Plus":  {number.Plus, (*big.Rat).Add},
		"Minus": {number.Minus, (*big.Rat).Sub},
		"Times": {number.Times, (*big.Rat).Mul},
		"Over":  {number.Over, (*big.Rat).Quo},
	}
}

func TestOperationsOnSpans(t *testing.T) {
	random := rand.New(rand.NewSource(21))
	for what, operation := range operations() {
		for i := range 2000 {
			draw := small
			if i%10 == 0 {
				draw = some
			}
			a, b := ordered(draw(random), draw(random))
			c, d := ordered(draw(random), draw(random))
			if limitedSpan(a, b).Error != api.OK || limitedSpan(c, d).Error != api.OK {
				continue
			}
			got := both(operation.spans(span(rat(a), rat(b)), span(rat(c), rat(d))))
			if what == "Over" && c.Sign() <= 0 && d.Sign() >= 0 {
				want(t, what, got, fails[api.Span](api.ErrZero))
				continue
			}
			var low, high *big.Rat
			for _, x := range []*big.Rat{a, b} {
				for _, y := range []*big.Rat{c, d} {
					z := operation.numbers(new(big.Rat), x, y)
					if low == nil || z.Cmp(low) < 0 {
						low = z
					}
					if high == nil || z.Cmp(high) > 0 {
						high = z
					}
				}
			}
			want(t, what, got, limitedSpan(low, high))
		}
	}
}

func TestSpansOfExamples(t *testing.T) {
	want(t, "Plus", both(number.Plus(span("-1", "2"), span("-3", "4"))), is(span("-4", "6")))
	want(t, "Minus", both(number.Minus(span("-1", "2"), span("-3", "4"))), is(span("-5", "5")))
	want(t, "Times", both(number.Times(span("-1", "2"), span("-3", "4"))), is(span("-6", "8")))
	want(t, "Over", both(number.Over(span("1", "2"), span("4", "8"))), is(span("1/8", "1/2")))
	want(t, "Over of negative numbers", both(number.Over(span("-1", "2"), span("-8", "-4"))), is(span("-1/2", "1/4")))
	for _, s := range []api.Span{span("0", "8"), span("-8", "0"), span("-1", "1"), point("0")} {
		want(t, "Over a span with 0", both(number.Over(span("1", "2"), s)), fails[api.Span](api.ErrZero))
	}
}

func TestOperationsOnWrongSpans(t *testing.T) {
	for what, operation := range operations() {
		f, good := operation.spans, span("1", "2")
		want(t, what+" of a wrong first span", both(f(span("2", "1"), api.Span{})), fails[api.Span](api.ErrOrder))
		want(t, what+" of a wrong second span", both(f(good, span("1", "x"))), fails[api.Span](api.ErrForm))
		want(t, what+" of a large second span", both(f(good, span("1", digits601))), fails[api.Span](api.ErrLarge))
		want(t, what+" of a second span in a wrong order", both(f(good, span("1", "-1"))), fails[api.Span](api.ErrOrder))
	}
	want(t, "Over of a wrong span by 0", both(number.Over(span("2", "1"), point("0"))), fails[api.Span](api.ErrOrder))
	large := fails[api.Span](api.ErrLarge)
	want(t, "Plus at the limit", both(number.Plus(span("0", nines600), point("1"))), large)
	want(t, "Minus at the limit", both(number.Minus(span("-"+nines600, "0"), point("1"))), large)
	want(t, "Times at the limit", both(number.Times(span("0", nines600), point("2"))), large)
	want(t, "Over at the limit", both(number.Over(span("0", nines600), point("1/2"))), large)
}

func TestSquare(t *testing.T) {
	random := rand.New(rand.NewSource(22))
	for range 1000 {
		a, b := ordered(small(random), small(random))
		low, high := ordered(new(big.Rat).Mul(a, a), new(big.Rat).Mul(b, b))
		if a.Sign() <= 0 && b.Sign() >= 0 {
			low = new(big.Rat)
		}
		want(t, "Square", both(number.Square(span(rat(a), rat(b)))), limitedSpan(low, high))
	}
	for s, squared := range map[api.Span]api.Span{span("-1", "2"): span("0", "4"), span("-3", "-2"): span("4", "9"), span("-3", "0"): span("0", "9"), span("0", "1/2"): span("0", "1/4"), point("-2/3"): point("4/9")} {
		want(t, "Square", both(number.Square(s)), is(squared))
	}
	want(t, "Square of a wrong span", both(number.Square(span("1", "0"))), fails[api.Span](api.ErrOrder))
	want(t, "Square of no span", both(number.Square(api.Span{})), fails[api.Span](api.ErrForm))
	want(t, "Square at the limit", both(number.Square(span("0", nines600))), fails[api.Span](api.ErrLarge))
}

func TestCompare(t *testing.T) {
	open := fails[int](api.ErrOpen)
	for _, row := range []struct {
		a, b api.Span
		r    result[int]
	}{
		{span("1", "2"), span("3", "4"), is(-1)},
		{span("3", "4"), span("1", "2"), is(1)},
		{span("9", "10"), span("11", "100"), is(-1)},
		{point("1/3"), point("1/2"), is(-1)},
		{point("-1/3"), point("-1/2"), is(1)},
		{point("2"), point("2"), is(0)},
		{span("1", "2"), span("2", "3"), open},
		{span("2", "3"), span("1", "2"), open},
		{span("1", "2"), span("1", "2"), open},
		{point("2"), span("2", "3"), open},
		{span("1", "2"), point("2"), open},
		{span("1", "4"), span("2", "3"), open},
		{span("2", "3"), span("1", "4"), open},
		{span("2", "1"), api.Span{}, fails[int](api.ErrOrder)},
		{span("1", "2"), span("2", "x"), fails[int](api.ErrForm)},
		{span("1", "2"), span(digits601, "x"), fails[int](api.ErrLarge)},
	} {
		want(t, "Compare", both(number.Compare(row.a, row.b)), row.r)
	}
}

func TestRoot(t *testing.T) {
	random := rand.New(rand.NewSource(23))
	for range 3000 {
		x := some(random)
		x.Abs(x)
		if limited(x).Error != api.OK {
			continue
		}
		k := 1 + random.Intn(number.MaxDecimals)
		want(t, "Root of "+x.RatString(), both(number.Root(rat(x), k)), is(rootOf(x, k)))
		if square := limited(new(big.Rat).Mul(x, x)); square.Error == api.OK {
			want(t, "Root of a square", both(number.Root(square.Value, k)), is(point(rat(x))))
		}
	}
}

// rootOf returns the root of a number with decimals.
func rootOf(x *big.Rat, k int) api.Span {
	above, below := new(big.Int).Sqrt(x.Num()), new(big.Int).Sqrt(x.Denom())
	exact := new(big.Rat).SetFrac(above, below)
	if new(big.Rat).Mul(exact, exact).Cmp(x) == 0 {
		return point(rat(exact))
	}
	units := new(big.Int).Exp(big.NewInt(10), big.NewInt(int64(k)), nil)
	n := new(big.Int).Mul(x.Num(), units)
	n.Mul(n, units).Div(n, x.Denom()).Sqrt(n)
	next := new(big.Int).Add(n, big.NewInt(1))
	return span(rat(new(big.Rat).SetFrac(n, units)), rat(new(big.Rat).SetFrac(next, units)))
}

func TestRootOfExamples(t *testing.T) {
	for _, row := range []struct {
		a        api.Rat
		decimals int
		r        result[api.Span]
	}{
		{"2", 3, is(span("707/500", "283/200"))},
		{"2", 1, is(span("7/5", "3/2"))},
		{"2", 12, is(span("1414213562373/1000000000000", "707106781187/500000000000"))},
		{"9/16", 3, is(point("3/4"))},
		{"0", 2, is(point("0"))},
		{"1", 12, is(point("1"))},
		{"9/2", 1, is(span("21/10", "11/5"))},
		{"2/9", 1, is(span("2/5", "1/2"))},
		{"1/" + nines600, 12, is(span("0", "1/1000000000000"))},
		{"1" + api.Rat(strings.Repeat("0", 598)), 5, is(point("1" + api.Rat(strings.Repeat("0", 299))))},
		{"-1", 3, fails[api.Span](api.ErrRange)},
		{"-1/" + nines600, 3, fails[api.Span](api.ErrRange)},
		{"4", 0, fails[api.Span](api.ErrRange)},
		{"4", -1, fails[api.Span](api.ErrRange)},
		{"4", 13, fails[api.Span](api.ErrRange)},
		{"x", 0, fails[api.Span](api.ErrForm)},
		{digits601, 3, fails[api.Span](api.ErrLarge)},
		{"-" + digits601, 0, fails[api.Span](api.ErrLarge)},
	} {
		want(t, "Root of "+string(row.a), both(number.Root(row.a, row.decimals)), row.r)
	}
}
