package number_test

import (
	"math/big"
	"math/rand"
	"testing"

	"lenslet/api"
	"lenslet/number"
)

// P1.3

// pi has more decimals than any test needs.
const pi = "3.14159265358979323846264338327950288419716939937510582097494459230781640628620899862803482534211706798214808651"

// cosineOf returns the cosine of a turn, to about 90 decimals, by the power series of the whole angle.
func cosineOf(turn *big.Rat) *big.Float {
	const precision = 340
	full, _ := new(big.Float).SetPrec(precision).SetString(pi)
	part := new(big.Rat).Sub(turn, new(big.Rat).SetInt(new(big.Int).Div(turn.Num(), turn.Denom())))
	angle := new(big.Float).SetPrec(precision).SetRat(part)
	angle.Mul(angle, full).Mul(angle, big.NewFloat(2))
	sum, term := big.NewFloat(1).SetPrec(precision), big.NewFloat(1).SetPrec(precision)
	for k := 1; k < 200; k += 2 {
		term.Mul(term, angle).Mul(term, angle).Quo(term, big.NewFloat(float64(-k*(k+1))))
		sum.Add(sum, term)
	}
	return sum
}

// cosineSpan returns the span of the cosine of a turn with decimals.
func cosineSpan(turn *big.Rat, decimals int) api.Span {
	cosine := cosineOf(turn)
	if d := turn.Denom().Int64(); turn.Denom().IsInt64() && (d <= 4 || d == 6) {
		double, _ := new(big.Float).Mul(cosine, big.NewFloat(2)).Float64()
		return point(rat(big.NewRat(int64(double+2.5)-2, 2)))
	}
	units := new(big.Int).Exp(big.NewInt(10), big.NewInt(int64(decimals)), nil)
	scaled := new(big.Float).Mul(cosine, new(big.Float).SetInt(units))
	n, _ := scaled.Int(nil)
	if scaled.Sign() < 0 {
		n.Sub(n, big.NewInt(1))
	}
	next := new(big.Int).Add(n, big.NewInt(1))
	return span(rat(new(big.Rat).SetFrac(n, units)), rat(new(big.Rat).SetFrac(next, units)))
}

// checkTurn compares the cosine, the sine and the turn box of a turn with those of the series.
func checkTurn(t *testing.T, turn *big.Rat, decimals int) {
	t.Helper()
	a := rat(turn)
	cosine := cosineSpan(turn, decimals)
	sine := cosineSpan(new(big.Rat).Sub(turn, big.NewRat(1, 4)), decimals)
	want(t, "Cos of "+string(a), both(number.Cos(a, decimals)), is(cosine))
	want(t, "Sin of "+string(a), both(number.Sin(a, decimals)), is(sine))
	want(t, "Turn of "+string(a), both(number.Turn(a, decimals)), is(api.Box{Re: cosine, Im: sine}))
}

func TestTurnsWithSmallDenominators(t *testing.T) {
	for d := int64(1); d <= 24; d++ {
		for n := -2 * d; n <= 2*d; n++ {
			checkTurn(t, big.NewRat(n, d), 1+int(d+n+2*d)%number.MaxDecimals)
		}
	}
}

func TestTurns(t *testing.T) {
	random := rand.New(rand.NewSource(31))
	for range 500 {
		turn := big.NewRat(random.Int63n(4e9)-2e9, 1+random.Int63n(api.MaxNumber))
		checkTurn(t, turn, 1+random.Intn(number.MaxDecimals))
	}
}

// TestTurnsNearDecimals has cosines that lie very near to a number with 12 decimals, on both
// sides of it, and turns next to those with exact cosines.
func TestTurnsNearDecimals(t *testing.T) {
	for _, turn := range []*big.Rat{
		big.NewRat(97, 430959645), big.NewRat(491, 391800978), big.NewRat(153, 480663676), big.NewRat(368, 943956675),
		big.NewRat(683, 875981534), big.NewRat(945, 808006393), big.NewRat(194, 143653215), big.NewRat(617, 598191706),
		big.NewRat(1, 999999999), big.NewRat(-1, 999999999), big.NewRat(499999999, 999999998), big.NewRat(499999999, 999999999), big.NewRat(250000000, 999999999), big.NewRat(249999999, 999999997),
		big.NewRat(166666666, 999999997), big.NewRat(166666667, 999999999), big.NewRat(333333332, 999999997), big.NewRat(333333334, 999999999),
	} {
		opposite := new(big.Rat).Sub(big.NewRat(1, 2), turn)
		for decimals := 1; decimals <= number.MaxDecimals; decimals++ {
			checkTurn(t, turn, decimals)
			checkTurn(t, new(big.Rat).Neg(turn), decimals)
			if opposite.Denom().Int64() <= api.MaxNumber {
				checkTurn(t, opposite, decimals)
			}
		}
	}
}

func TestTurnsOfExamples(t *testing.T) {
	for _, row := range []struct {
		turn     api.Rat
		decimals int
		cos, sin api.Span
	}{
		{"0", 3, point("1"), point("0")},
		{"1/12", 1, span("4/5", "9/10"), point("1/2")},
		{"1/6", 5, point("1/2"), span("43301/50000", "86603/100000")},
		{"1/4", 1, point("0"), point("1")},
		{"1/2", 1, point("-1"), point("0")},
		{"3/4", 1, point("0"), point("-1")},
		{"7/2", 1, point("-1"), point("0")},
		{"1/8", 3, span("707/1000", "177/250"), span("707/1000", "177/250")},
		{"-1/8", 3, span("707/1000", "177/250"), span("-177/250", "-707/1000")},
		{"3/8", 3, span("-177/250", "-707/1000"), span("707/1000", "177/250")},
		{"1/999999999", 12, span("999999999999/1000000000000", "1"), span("6283/1000000000000", "1571/250000000000")},
		{nines600, 1, point("1"), point("0")},
		{nines600 + "/2", 1, point("-1"), point("0")},
	} {
		want(t, "Cos of "+string(row.turn), both(number.Cos(row.turn, row.decimals)), is(row.cos))
		want(t, "Sin of "+string(row.turn), both(number.Sin(row.turn, row.decimals)), is(row.sin))
	}
	want(t, "Turn", both(number.Turn("1/4", 2)), is(one("0", "1")))
}

func TestWrongTurns(t *testing.T) {
	for _, row := range []struct {
		turn     api.Rat
		decimals int
		e        api.Errno
	}{
		{"1/5", 0, api.ErrRange},
		{"1/5", -7, api.ErrRange},
		{"1/5", 13, api.ErrRange},
		{"0", 0, api.ErrRange},
		{"1/999999999", 13, api.ErrRange},
		{"1/1000000000", 3, api.ErrLarge},
		{"1/1000000000", 0, api.ErrLarge},
		{"1/" + nines600, 13, api.ErrLarge},
		{digits601, 0, api.ErrLarge},
		{"", 0, api.ErrForm},
		{"2/1000000000", 0, api.ErrForm},
	} {
		what := " of " + string(row.turn)
		want(t, "Cos"+what, both(number.Cos(row.turn, row.decimals)), fails[api.Span](row.e))
		want(t, "Sin"+what, both(number.Sin(row.turn, row.decimals)), fails[api.Span](row.e))
		want(t, "Turn"+what, both(number.Turn(row.turn, row.decimals)), fails[api.Box](row.e))
	}
}

// someBox returns a box with small parts.
func someBox(random *rand.Rand) api.Box {
	a, b := ordered(small(random), small(random))
	c, d := ordered(small(random), small(random))
	return api.Box{Re: span(rat(a), rat(b)), Im: span(rat(c), rat(d))}
}

// spanOf returns the result of an operation on spans that has no error.
func spanOf(t *testing.T, s api.Span, e api.Errno) api.Span {
	t.Helper()
	if e != api.OK {
		t.Fatalf("an error: %d", e)
	}
	return s
}

func TestBoxes(t *testing.T) {
	random := rand.New(rand.NewSource(32))
	span2 := func(f func(a, b api.Span) (api.Span, api.Errno), a, b api.Span) api.Span {
		s, e := f(a, b)
		return spanOf(t, s, e)
	}
	for range 500 {
		a, b := someBox(random), someBox(random)
		want(t, "CheckBox", number.CheckBox(a), api.OK)
		want(t, "AddBox", both(number.AddBox(a, b)), is(api.Box{Re: span2(number.Plus, a.Re, b.Re), Im: span2(number.Plus, a.Im, b.Im)}))
		want(t, "MulBox", both(number.MulBox(a, b)), is(api.Box{
			Re: span2(number.Minus, span2(number.Times, a.Re, b.Re), span2(number.Times, a.Im, b.Im)),
			Im: span2(number.Plus, span2(number.Times, a.Re, b.Im), span2(number.Times, a.Im, b.Re)),
		}))
		want(t, "Conjugate", both(number.Conjugate(a)), is(api.Box{Re: a.Re, Im: span2(number.Minus, point("0"), a.Im)}))
		re, e := number.Square(a.Re)
		re = spanOf(t, re, e)
		im, e := number.Square(a.Im)
		want(t, "Norm", both(number.Norm(a)), is(span2(number.Plus, re, spanOf(t, im, e))))
	}
}

func TestBoxesOfExamples(t *testing.T) {
	want(t, "AddBox", both(number.AddBox(one("1", "2"), one("3", "-1"))), is(one("4", "1")))
	want(t, "MulBox", both(number.MulBox(one("1", "2"), one("3", "-1"))), is(one("5", "5")))
	want(t, "MulBox by i", both(number.MulBox(api.Box{Re: span("0", "1"), Im: span("0", "1")}, one("0", "1"))), is(api.Box{Re: span("-1", "0"), Im: span("0", "1")}))
	// The real and the imaginary part are computed apart, so the square of a box is not sharp.
	want(t, "MulBox of a box by itself", both(number.MulBox(api.Box{Re: span("-1", "2"), Im: point("0")}, api.Box{Re: span("-1", "2"), Im: point("0")})), is(api.Box{Re: span("-2", "4"), Im: point("0")}))
	want(t, "Conjugate", both(number.Conjugate(one("1", "2"))), is(one("1", "-2")))
	want(t, "Conjugate of a box", both(number.Conjugate(api.Box{Re: span("0", "1"), Im: span("-1", "2")})), is(api.Box{Re: span("0", "1"), Im: span("-2", "1")}))
	want(t, "Norm", both(number.Norm(one("1", "2"))), is(point("5")))
	want(t, "Norm of a box", both(number.Norm(api.Box{Re: span("-1", "2"), Im: span("1", "3")})), is(span("1", "13")))
}

func TestBoxesAtTheLimit(t *testing.T) {
	huge := nines600
	want(t, "AddBox", both(number.AddBox(one("0", huge), one("0", "1"))), fails[api.Box](api.ErrLarge))
	want(t, "MulBox", both(number.MulBox(one("0", huge), one("0", "2"))), fails[api.Box](api.ErrLarge))
	// The products have 1200 digits, and cancel in both parts of the results.
	want(t, "MulBox that cancels", both(number.MulBox(one(huge, huge), one("0", "0"))), is(one("0", "0")))
	want(t, "MulBox with large parts", both(number.MulBox(one(huge, "1/2"), one("1/2", huge))), fails[api.Box](api.ErrLarge))
	want(t, "MulBox with a large part that cancels", both(number.MulBox(api.Box{Re: point(huge), Im: point(huge)}, one("1/"+huge, "1/"+huge))), is(one("0", "2")))
	want(t, "Norm", both(number.Norm(one("0", huge))), fails[api.Span](api.ErrLarge))
	want(t, "Conjugate", both(number.Conjugate(one(huge, huge))), is(one(huge, "-"+huge)))
}

func TestWrongBoxes(t *testing.T) {
	good, box := one("1", "2"), func(re, im api.Span) api.Box { return api.Box{Re: re, Im: im} }
	for _, row := range []struct {
		b api.Box
		e api.Errno
	}{
		{api.Box{}, api.ErrForm},
		{box(span("2", "1"), api.Span{}), api.ErrOrder},
		{box(point("1"), span("2", "1")), api.ErrOrder},
		{box(point("1"), span("2", "x")), api.ErrForm},
		{box(point("1"), point(digits601)), api.ErrLarge},
		{box(point(digits601), span("2", "1")), api.ErrLarge},
	} {
		want(t, "CheckBox", number.CheckBox(row.b), row.e)
		want(t, "AddBox of a wrong first box", both(number.AddBox(row.b, one("2", "4/2"))), fails[api.Box](row.e))
		want(t, "AddBox of a wrong second box", both(number.AddBox(good, row.b)), fails[api.Box](row.e))
		want(t, "MulBox of a wrong first box", both(number.MulBox(row.b, one("2", "4/2"))), fails[api.Box](row.e))
		want(t, "MulBox of a wrong second box", both(number.MulBox(good, row.b)), fails[api.Box](row.e))
		want(t, "Conjugate", both(number.Conjugate(row.b)), fails[api.Box](row.e))
		want(t, "Norm", both(number.Norm(row.b)), fails[api.Span](row.e))
	}
}
