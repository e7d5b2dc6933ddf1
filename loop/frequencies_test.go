package loop_test

import (
	"math"
	"math/big"
	"math/rand"
	"testing"

	"lenslet/api"
	"lenslet/loop"
	"lenslet/number"
)

// P6.5: frequencies.

// chain calls functions of package number, until one of them returns an error.
type chain struct{ e api.Errno }

// span returns a span, and remembers its error.
func (c *chain) span(s api.Span, e api.Errno) api.Span {
	if c.e == api.OK {
		c.e = e
	}
	return s
}

// box returns a box, and remembers its error.
func (c *chain) box(b api.Box, e api.Errno) api.Box {
	if c.e == api.OK {
		c.e = e
	}
	return b
}

// alone returns the span of a number alone.
func alone(a *big.Rat) api.Span { return api.Span{Low: rat(a), High: rat(a)} }

// value returns the box of a polynomial at a turn.
func (c *chain) value(p numbers, turn *big.Rat, decimals int) api.Box {
	zero := api.Span{Low: "0", High: "0"}
	sum := api.Box{Re: zero, Im: zero}
	for k, a := range p {
		b := c.box(number.Turn(rat(times(turn, integer(k))), decimals))
		b.Re = c.span(number.Times(alone(a), b.Re))
		b.Im = c.span(number.Times(alone(a), b.Im))
		sum = c.box(number.AddBox(sum, b))
	}
	return sum
}

// rejection returns the squared magnitude by its definition.
func rejection(l loop.Loop, turn *big.Rat, decimals int) result[api.Span] {
	var c chain
	above := c.box(number.Turn(rat(turn), decimals))
	above.Re = c.span(number.Minus(above.Re, alone(value(l.Leak))))
	below := c.value(closed(l), turn, decimals)
	s := c.span(number.Over(c.span(number.Norm(above)), c.span(number.Norm(below))))
	if c.e != api.OK {
		return fails[api.Span](c.e)
	}
	return is(s)
}

func TestRejection(t *testing.T) {
	want(t, "Rejection at 1/2", both(loop.Rejection(example(), "1/2", 3)), is(api.Span{Low: "16/9", High: "16/9"}))
	want(t, "Rejection at 0", both(loop.Rejection(example(), "0", 3)), is(api.Span{Low: "0", High: "0"}))
	want(t, "Rejection at 1/4", both(loop.Rejection(example(), "1/4", 12)), is(api.Span{Low: "8/5", High: "8/5"}))
	want(t, "Rejection at -1/4", both(loop.Rejection(example(), "-1/4", 1)), is(api.Span{Low: "8/5", High: "8/5"}))
	want(t, "Rejection at 5/4", both(loop.Rejection(example(), "5/4", 1)), is(api.Span{Low: "8/5", High: "8/5"}))
	// At 1/6 the cosines of z and z z are 1/2 and -1/2, and the sines of both, with 1 decimal, from 4/5 to
	// 9/10: the numerator is -1/2 and these, the denominator -3/4 and from 4/5 - 9/20 to 9/10 - 2/5.
	want(t, "Rejection at 1/6", both(loop.Rejection(example(), "1/6", 1)), is(api.Span{Low: "356/325", High: "212/137"}))
}

func TestRejectionByDefinition(t *testing.T) {
	random := rand.New(rand.NewSource(1))
	var found int
	for k := range 400 {
		l, decimals := someLoop(random), 1+random.Intn(12)
		turn := big.NewRat(random.Int63n(61)-30, 1+random.Int63n(30))
		switch k % 10 {
		case 0:
			turn = big.NewRat(random.Int63(), api.MaxNumber)
		case 1:
			turn = big.NewRat(-1, 1+random.Int63n(api.MaxNumber))
		}
		expected := rejection(l, turn, decimals)
		if expected.Error == api.OK {
			found++
		}
		want(t, "Rejection", both(loop.Rejection(l, rat(turn), decimals)), expected)
	}
	if found < 250 {
		t.Errorf("only %d spans", found)
	}
}

func TestRejectionAtTheEnds(t *testing.T) {
	still := loop.Loop{Gain: "0", Leak: "1", Prediction: "0"}
	late := delayed(6)
	turn := api.Rat("1/999999999")
	want(t, "Rejection at 1/999999999", both(loop.Rejection(late, turn, 12)), rejection(late, value(turn), 12))
	want(t, "Rejection at 1/1000000000", both(loop.Rejection(late, "1/1000000000", 12)), fails[api.Span](api.ErrLarge))
	want(t, "Rejection at 1/1000000000", both(loop.Rejection(still, "3/1000000000", 1)), fails[api.Span](api.ErrLarge))
	want(t, "Rejection at 0", both(loop.Rejection(still, "0", 12)), fails[api.Span](api.ErrZero))
	want(t, "Rejection at 1/2", both(loop.Rejection(still, "1/2", 12)), is(api.Span{Low: "1", High: "1"}))
	want(t, "Rejection at 1/2", both(loop.Rejection(unstable(), "1/2", 12)), fails[api.Span](api.ErrZero))
	want(t, "Rejection of an unstable loop", both(loop.Rejection(unstable(), "0", 12)), is(api.Span{Low: "0", High: "0"}))
	// With 1 decimal the span of the denominator contains 0, with 12 it does not.
	near := loop.Loop{Gain: "1/100", Leak: "1", Prediction: "0"}
	want(t, "Rejection with 1 decimal", both(loop.Rejection(near, "1/1000", 1)), fails[api.Span](api.ErrZero))
	want(t, "Rejection with 12 decimals", both(loop.Rejection(near, "1/1000", 12)), rejection(near, big.NewRat(1, 1000), 12))
}

func TestRejectionOfLargeNumbers(t *testing.T) {
	// The multiples of these frequencies have more than 600 digits, and the same cosines and sines as those of 1/3.
	far := api.Rat(nines600[:599] + "7") // 1 more than a multiple of 3
	for decimals := range 12 {
		wanted := rejection(delayed(6), big.NewRat(1, 3), decimals+1)
		want(t, "Rejection at a far frequency", both(loop.Rejection(delayed(6), far+"/3", decimals+1)), wanted)
		want(t, "Rejection at a far frequency", both(loop.Rejection(delayed(6), "-"+far[:599]+"5/3", decimals+1)), wanted)
	}
	// The coefficient at the power 1 has 1199 digits; at 1/2 they remain in the result, at 0 it is 0.
	l := loop.Loop{Gain: "1/" + nines600, Leak: "0", Prediction: "1/" + power10(599), Delay: 1}
	want(t, "Rejection with 601 digits", both(loop.Rejection(l, "1/2", 1)), fails[api.Span](api.ErrLarge))
	l.Leak, l.Prediction = "1", "1/"+nines600[:300]
	want(t, "Rejection by way of larger numbers", both(loop.Rejection(l, "0", 1)), is(api.Span{Low: "0", High: "0"}))
}

func TestSweep(t *testing.T) {
	c, e := loop.Sweep(example(), 2)
	want(t, "Sweep", e, api.OK)
	if len(c) != 2 || c[0] != 0 || math.Abs(real(c[1])-1.2) > 1e-9 || math.Abs(imag(c[1])-0.4) > 1e-9 {
		t.Errorf("Sweep: got %v", c)
	}
	want(t, "CheckSweep", loop.CheckSweep(example(), []complex128{0, 1.2 + 0.4i}), api.OK)
	want(t, "CheckSweep of 1 number", loop.CheckSweep(example(), []complex128{0}), api.OK)
	want(t, "CheckSweep of a changed number", loop.CheckSweep(example(), []complex128{0, 1.2 - 0.4i}), api.ErrProof)
	want(t, "CheckSweep of a changed number", loop.CheckSweep(example(), []complex128{1e-3, 1.2 + 0.4i}), api.ErrProof)
	want(t, "CheckSweep of numbers for other frequencies", loop.CheckSweep(example(), []complex128{0, 1.2 + 0.4i, 0}), api.ErrProof)
}

// accepted is the acceptance of a sweep by its definition.
func accepted(t *testing.T, l loop.Loop, c []complex128) api.Errno {
	t.Helper()
	sum := integer(2)
	for _, a := range closed(l) {
		sum = plus(sum, size(a))
	}
	part := func(f float64) *big.Rat { return new(big.Rat).SetFloat64(f) }
	for k, x := range c {
		var calls chain
		turn := big.NewRat(int64(k), int64(2*len(c)))
		above := zeros(l.Delay + 3)
		above[l.Delay+2], above[l.Delay+1] = integer(1), minus(integer(0), value(l.Leak))
		n, b := calls.value(above, turn, 12), calls.value(closed(l), turn, 12)
		re, im := part(real(x)), part(imag(x))
		product := calls.box(number.MulBox(api.Box{Re: alone(re), Im: alone(im)}, b))
		bound := times(times(big.NewRat(1, 1<<30), plus(integer(1), plus(size(re), size(im)))), sum)
		for _, s := range []api.Span{calls.span(number.Minus(product.Re, n.Re)), calls.span(number.Minus(product.Im, n.Im))} {
			if calls.e != api.OK {
				t.Fatalf("CheckSweep by definition: error %d", calls.e)
			}
			if _, greatest := magnitudes(s); greatest.Cmp(bound) > 0 {
				return api.ErrProof
			}
		}
	}
	return api.OK
}

func TestSweepByDefinition(t *testing.T) {
	random := rand.New(rand.NewSource(2))
	for k := range 150 {
		l, n := someStable(random), 1+random.Intn(8)
		if k%30 == 0 {
			n = loop.MaxSweep
		}
		c, e := loop.Sweep(l, n)
		want(t, "Sweep", e, api.OK)
		want(t, "length of Sweep", len(c), n)
		want(t, "CheckSweep by definition", accepted(t, l, c), api.OK)
		want(t, "CheckSweep", loop.CheckSweep(l, c), api.OK)
		for _, x := range c {
			if real(x) == 0 && math.Signbit(real(x)) || imag(x) == 0 && math.Signbit(imag(x)) {
				t.Errorf("Sweep: -0 in %v", x)
			}
		}
		// Changes of about the size of the tolerance.
		for range 4 {
			changed := append([]complex128(nil), c...)
			i := random.Intn(n)
			far := math.Ldexp(random.Float64()*16, -30)
			changed[i] += []complex128{complex(far, 0), complex(-far, 0), complex(0, far), complex(0, -far)}[random.Intn(4)]
			want(t, "CheckSweep of a changed number", loop.CheckSweep(l, changed), accepted(t, l, changed))
		}
		c[random.Intn(n)] += 1
		if wanted := accepted(t, l, c); loop.CheckSweep(l, c) != wanted || wanted != api.ErrProof {
			t.Errorf("CheckSweep of a changed number: want %v", wanted)
		}
	}
}

// TestToleranceOfSweeps has a number whose distance is the tolerance itself: with the gain 1 the closed
// polynomial at 1 is 1, the numerator 0 and S 3, so that the real part has to be at most
// 2^-30 (1 + |Re c| + |Im c|) 3.
func TestToleranceOfSweeps(t *testing.T) {
	l := loop.Loop{Gain: "1", Leak: "1", Prediction: "0"}
	re := math.Ldexp(3*(1<<28+1), -58)
	im := math.Ldexp(1<<28-3, -58)
	more := math.Nextafter(re, 1)
	for _, c := range []complex128{complex(re, im), complex(-re, im), complex(im, re), complex(im, -re), complex(-re, -im)} {
		want(t, "CheckSweep at the tolerance", loop.CheckSweep(l, []complex128{c}), api.OK)
	}
	for _, c := range []complex128{complex(more, im), complex(-more, im), complex(im, more), complex(-im, -more)} {
		want(t, "CheckSweep beyond the tolerance", loop.CheckSweep(l, []complex128{c}), api.ErrProof)
	}
	want(t, "CheckSweep of -0", loop.CheckSweep(l, []complex128{complex(math.Copysign(0, -1), math.Copysign(0, -1))}), api.OK)
}

// TestEdgeOfSweeps looks for neighbours of which one is accepted, and the other one is not, where the boxes
// of the response are no single numbers.
func TestEdgeOfSweeps(t *testing.T) {
	for _, l := range []loop.Loop{example(), {Gain: "1/3", Leak: "3/4", Prediction: "1/5", Delay: 2}} {
		for _, direction := range []complex128{1, -1, 1i, -1i} {
			c, e := loop.Sweep(l, 5)
			want(t, "Sweep", e, api.OK)
			moved := func(by float64) []complex128 {
				changed := append([]complex128(nil), c...)
				changed[3] += direction * complex(by, 0)
				return changed
			}
			near, far := 0.0, 1.0
			for range 60 {
				if middle := (near + far) / 2; accepted(t, l, moved(middle)) == api.OK {
					near = middle
				} else {
					far = middle
				}
			}
			want(t, "CheckSweep just within the tolerance", loop.CheckSweep(l, moved(near)), api.OK)
			want(t, "CheckSweep just beyond the tolerance", loop.CheckSweep(l, moved(far)), api.ErrProof)
		}
	}
}

// TestSweepsNextToRoots has loops with a root so near to 1 or to -1 that the response is too large for a float.
func TestSweepsNextToRoots(t *testing.T) {
	almost := nines600[:599] + "/" + power10(599)
	almost2 := "1" + nines600[:598] + "/" + power10(598)
	for _, l := range []loop.Loop{
		{Gain: "1/" + nines600, Leak: "1", Prediction: "0"},
		{Gain: "0", Leak: almost, Prediction: "0"},
		{Gain: "0", Leak: almost, Prediction: "1/2", Delay: 6},
		{Gain: almost2, Leak: "1", Prediction: "0"},
		{Gain: almost, Leak: "0", Prediction: "0", Delay: 6},
		{Gain: almost, Leak: "0", Prediction: "0", Delay: 5},
		{Gain: "1/100000000000", Leak: "1", Prediction: "0", Delay: 3},
		{Gain: "1/10000000000", Leak: "1", Prediction: "0", Delay: 3},
		{Gain: "1/1000000000", Leak: "1", Prediction: "0", Delay: 3},
		{Gain: "1/100000000", Leak: "1", Prediction: "1/3", Delay: 3},
	} {
		for _, n := range []int{1, 2, 7, 64} {
			c := both(loop.Sweep(l, n))
			want(t, "Sweep next to a root", c.Error, api.OK)
			want(t, "CheckSweep next to a root", loop.CheckSweep(l, c.Value), api.OK)
		}
	}
	// Far from the response, but within the tolerance, as it is large.
	want(t, "CheckSweep of a large number", loop.CheckSweep(loop.Loop{Gain: "1/" + nines600, Leak: "1", Prediction: "0"}, []complex128{-1e308i}), api.OK)
	want(t, "CheckSweep of a large number", loop.CheckSweep(example(), []complex128{-1e308i}), api.ErrProof)
}

func TestWrongFrequencies(t *testing.T) {
	for _, w := range wrongLoops() {
		want(t, "Rejection", both(loop.Rejection(w.l, "?", 0)), fails[api.Span](w.e))
		want(t, "Rejection", both(loop.Rejection(w.l, "1/3", 1)), fails[api.Span](w.e))
		want(t, "Sweep", both(loop.Sweep(w.l, 0)), fails[[]complex128](w.e))
		want(t, "Sweep", both(loop.Sweep(w.l, 1)), fails[[]complex128](w.e))
		want(t, "CheckSweep", loop.CheckSweep(w.l, nil), w.e)
		want(t, "CheckSweep", loop.CheckSweep(w.l, []complex128{1}), w.e)
	}
	still := loop.Loop{Gain: "0", Leak: "1", Prediction: "0"}
	for _, w := range wrongRats() {
		want(t, "Rejection", both(loop.Rejection(still, w.a, 0)), fails[api.Span](w.e))
		want(t, "Rejection", both(loop.Rejection(still, w.a, 1)), fails[api.Span](w.e))
	}
	for _, decimals := range []int{-far - 1, -1, 0, 13, far} {
		want(t, "Rejection", both(loop.Rejection(still, "0", decimals)), fails[api.Span](api.ErrRange))
		want(t, "Rejection", both(loop.Rejection(still, "1/1000000000", decimals)), fails[api.Span](api.ErrRange))
	}
	for _, n := range []int{-far - 1, -1, 0, loop.MaxSweep + 1, far} {
		want(t, "Sweep", both(loop.Sweep(unstable(), n)), fails[[]complex128](api.ErrRange))
	}
	want(t, "Sweep of 64 numbers", both(loop.Sweep(unstable(), 64)), fails[[]complex128](api.ErrUnstable))
	want(t, "Sweep of 1 number", both(loop.Sweep(unstable(), 1)), fails[[]complex128](api.ErrUnstable))
	want(t, "CheckSweep of no number", loop.CheckSweep(unstable(), nil), api.ErrEmpty)
	want(t, "CheckSweep of 64 numbers", loop.CheckSweep(unstable(), make([]complex128, 64)), api.ErrUnstable)
	want(t, "CheckSweep of 65 numbers", loop.CheckSweep(unstable(), make([]complex128, 65)), api.ErrMany)
	nan, infinity := math.NaN(), math.Inf(1)
	for _, c := range []complex128{complex(nan, 0), complex(0, nan), complex(infinity, 0), complex(0, -infinity), complex(nan, infinity)} {
		want(t, "CheckSweep", loop.CheckSweep(unstable(), []complex128{0, c}), api.ErrForm)
		want(t, "CheckSweep", loop.CheckSweep(example(), []complex128{7, c}), api.ErrForm)
		want(t, "CheckSweep", loop.CheckSweep(example(), append(make([]complex128, 64), c)), api.ErrMany)
	}
}
