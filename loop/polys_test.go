package loop_test

import (
	"math/rand"
	"testing"

	"lenslet/api"
	"lenslet/loop"
)

// P6.1: polynomials.

func TestPolys(t *testing.T) {
	p, q := list("-1/2 1"), list("1/3 1")
	square := list("-1/6 -1/6 1")
	want(t, "Multiply", both(loop.Multiply(p, q)), is(square))
	want(t, "Value", both(loop.Value(square, "2")), is(api.Rat("7/2")))
	want(t, "Scaled", both(loop.Scaled(square, "2")), is(list("-1/6 -1/3 4")))
	want(t, "Scaled", both(loop.Scaled(square, "-1/2")), is(list("-1/6 1/12 1/4")))
}

func TestPolysByDefinition(t *testing.T) {
	random := rand.New(rand.NewSource(1))
	for range 300 {
		degree := random.Intn(api.MaxOrder + 1)
		p, q := somePoly(random, degree), somePoly(random, random.Intn(api.MaxOrder-degree+1))
		want(t, "CheckPoly", loop.CheckPoly(p.rats()), api.OK)
		want(t, "Multiply", both(loop.Multiply(p.rats(), q.rats())), is(p.times(q).rats()))
		x := small(random)
		want(t, "Value", both(loop.Value(p.rats(), rat(x))), is(rat(p.at(x))))
		if x.Sign() == 0 {
			continue
		}
		scaled, power := zeros(len(p)), integer(1)
		for k, a := range p {
			scaled[k] = times(a, power)
			power = times(power, x)
		}
		want(t, "Scaled", both(loop.Scaled(p.rats(), rat(x))), is(scaled.rats()))
	}
}

func TestPolysAtTheEnds(t *testing.T) {
	longest := repeated("1", api.MaxOrder+1)
	want(t, "CheckPoly of 1 coefficient", loop.CheckPoly(list("-7")), api.OK)
	want(t, "CheckPoly of 13 coefficients", loop.CheckPoly(longest), api.OK)
	want(t, "Multiply of degrees 12 and 0", both(loop.Multiply(longest, list("-1/2"))), is(repeated("-1/2", api.MaxOrder+1)))
	want(t, "Multiply of degrees 0 and 12", both(loop.Multiply(list("2"), longest)), is(repeated("2", api.MaxOrder+1)))
	want(t, "Multiply of degrees 5 and 7", both(loop.Multiply(list("0 0 0 0 0 1"), list("0 0 0 0 0 0 0 -1"))), is(list("0 0 0 0 0 0 0 0 0 0 0 0 -1")))
	want(t, "Multiply of degrees 12 and 1", both(loop.Multiply(longest, list("1 1"))), fails[[]api.Rat](api.ErrMany))
	want(t, "Multiply of degrees 6 and 7", both(loop.Multiply(repeated("1", 7), repeated(nines600, 8))), fails[[]api.Rat](api.ErrMany))
	want(t, "Multiply of degrees 12 and 12", both(loop.Multiply(longest, longest)), fails[[]api.Rat](api.ErrMany))
	want(t, "Value of degree 0", both(loop.Value(list("-7"), nines600)), is(api.Rat("-7")))
	want(t, "Value at 0", both(loop.Value(longest, "0")), is(api.Rat("1")))
	want(t, "Scaled of degree 0", both(loop.Scaled(list("-7"), nines600)), is(list("-7")))
}

func TestPolysTooLarge(t *testing.T) {
	high := list("0 0 0 0 0 0 0 0 0 0 0 0 1")
	want(t, "Value with 600 digits", both(loop.Value(high[2:], power10(59))), is(power10(590)))
	want(t, "Value with 601 digits", both(loop.Value(high, power10(50))), fails[api.Rat](api.ErrLarge))
	want(t, "Value with 601 digits below", both(loop.Value(high, "1/"+power10(50))), fails[api.Rat](api.ErrLarge))
	want(t, "Scaled with 601 digits", both(loop.Scaled(list("0 1 1"), power10(300))), fails[[]api.Rat](api.ErrLarge))
	want(t, "Multiply with 601 digits", both(loop.Multiply([]api.Rat{"1", power10(300)}, []api.Rat{"1", power10(300)})), fails[[]api.Rat](api.ErrLarge))
	want(t, "Multiply with 600 digits", both(loop.Multiply([]api.Rat{"1", power10(300)}, []api.Rat{"0", power10(299)})), is([]api.Rat{"0", power10(299), power10(599)}))
	// The square of the number has more digits than a number may have, but no result has.
	want(t, "Value by way of larger numbers", both(loop.Value([]api.Rat{"1", "-" + power10(599), "1"}, power10(599))), is(api.Rat("1")))
	want(t, "Scaled by way of larger numbers", both(loop.Scaled([]api.Rat{"1", "1", "1/" + power10(300)}, power10(300))), is([]api.Rat{"1", power10(300), power10(300)}))
	want(t, "Multiply with 600 digits below", both(loop.Multiply([]api.Rat{nines600, "1"}, []api.Rat{"1/" + nines600, "-1/" + nines600})),
		is([]api.Rat{"1", "-" + nines600[1:] + "8/" + nines600, "-1/" + nines600}))
}

func TestWrongPolys(t *testing.T) {
	for _, w := range wrongPolys() {
		want(t, "CheckPoly", loop.CheckPoly(w.list), w.e)
		want(t, "Multiply", both(loop.Multiply(w.list, nil)), fails[[]api.Rat](w.e))
		want(t, "Multiply", both(loop.Multiply(list("1"), w.list)), fails[[]api.Rat](w.e))
		want(t, "Multiply", both(loop.Multiply(repeated("1", 13), w.list)), fails[[]api.Rat](w.e))
		want(t, "Value", both(loop.Value(w.list, "?")), fails[api.Rat](w.e))
		for _, by := range []api.Rat{"0", "?", digits601} {
			want(t, "Scaled", both(loop.Scaled(w.list, by)), fails[[]api.Rat](w.e))
		}
	}
	for _, w := range wrongRats() {
		want(t, "Value", both(loop.Value(repeated(nines600, 13), w.a)), fails[api.Rat](w.e))
		want(t, "Scaled", both(loop.Scaled(repeated(nines600, 13), w.a)), fails[[]api.Rat](w.e))
	}
	want(t, "Scaled by 0", both(loop.Scaled(list("1"), "0")), fails[[]api.Rat](api.ErrZero))
}
