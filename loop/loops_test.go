package loop_test

import (
	"math/big"
	"math/rand"
	"testing"

	"lenslet/api"
	"lenslet/loop"
	"lenslet/number"
)

// P6.3: loops.

func TestLoops(t *testing.T) {
	want(t, "Closed", both(loop.Closed(example())), is(list("0 -1/2 1")))
	want(t, "Limit", both(loop.Limit(example(), 1)), is(api.Rat("2")))
	want(t, "Margin", both(loop.Margin(example(), 1)), is(api.Rat("4")))
	want(t, "Closed", both(loop.Closed(delayed(1))), is(list("0 1/2 -1 1")))
	want(t, "Limit", both(loop.Limit(delayed(1), 1)), is(api.Rat("1")))
	want(t, "Certified", both(loop.Certified(example(), api.Span{Low: "1/4", High: "3/2"})), is(true))
	want(t, "Certified", both(loop.Certified(example(), api.Span{Low: "1/4", High: "2"})), is(false))
	l := example()
	l.Leak = "1/2"
	want(t, "Steady", both(loop.Steady(l)), is(api.Rat("1/2")))
	want(t, "Steady", both(loop.Steady(example())), is(api.Rat("0")))
}

func TestCheckLoop(t *testing.T) {
	for _, l := range []loop.Loop{
		example(), delayed(6), unstable(),
		{Gain: "0", Leak: "0", Prediction: "0"},
		{Gain: nines600, Leak: "1/" + nines600, Prediction: nines600 + "/2", Delay: 3},
		{Gain: "0", Leak: nines600[:599] + "/" + power10(599), Prediction: "0"},
	} {
		want(t, "CheckLoop", loop.CheckLoop(l), api.OK)
	}
}

func TestClosed(t *testing.T) {
	for _, row := range []struct {
		l loop.Loop
		p string
	}{
		// The leak, the gain and the prediction meet at the power 1.
		{loop.Loop{Gain: "1/2", Leak: "1/3", Prediction: "1/4"}, "-1/4 5/12 1"},
		{loop.Loop{Gain: "1/2", Leak: "1/3", Prediction: "1/4", Delay: 1}, "-1/4 3/4 -1/3 1"},
		{loop.Loop{Gain: "1/2", Leak: "1", Prediction: "1/2"}, "-1/2 0 1"},
		{loop.Loop{Gain: "0", Leak: "0", Prediction: "0"}, "0 0 1"},
		{loop.Loop{Gain: "0", Leak: "0", Prediction: "0", Delay: 6}, "0 0 0 0 0 0 0 0 1"},
		{loop.Loop{Gain: "2", Leak: "1", Prediction: "3", Delay: 6}, "-3 5 0 0 0 0 0 -1 1"},
	} {
		want(t, "Closed", both(loop.Closed(row.l)), is(list(row.p)))
	}
	random := rand.New(rand.NewSource(1))
	for range 200 {
		l := someLoop(random)
		want(t, "Closed", both(loop.Closed(l)), is(closed(l).rats()))
	}
	large := loop.Loop{Gain: nines600, Leak: "1", Prediction: "1"}
	want(t, "Closed with 600 digits", both(loop.Closed(large)), is([]api.Rat{"-1", nines600, "1"}))
	large.Delay = 1
	want(t, "Closed with 601 digits", both(loop.Closed(large)), fails[[]api.Rat](api.ErrLarge))
}

// isStable reports whether a loop is stable with a gain.
func isStable(t *testing.T, l loop.Loop, gain *big.Rat) bool {
	t.Helper()
	l.Gain = rat(gain)
	stable, e := loop.Stable(closed(l).rats())
	if e != api.OK {
		t.Errorf("Stable of %v: error %d", l, e)
	}
	return stable
}

func TestLimit(t *testing.T) {
	for _, row := range []struct {
		l       loop.Loop
		one     api.Rat
		hundred api.Rat
	}{
		{loop.Loop{Gain: "1/2", Leak: "1/2", Prediction: "0"}, "3/2", "3/2"},
		{loop.Loop{Gain: "0", Leak: "0", Prediction: "0"}, "1", "1"},
		{loop.Loop{Gain: "99", Leak: "1/3", Prediction: "0"}, "7/5", "67/50"}, // from 4/3 on
		{loop.Loop{Gain: "0", Leak: "1", Prediction: "1"}, "1/10", "1/100"},   // the product of the roots is -1
		{loop.Loop{Gain: "0", Leak: "1", Prediction: nines600, Delay: 6}, "1/10", "1/100"},
		{loop.Loop{Gain: "1/2", Leak: "1", Prediction: "0", Delay: 2}, "7/10", "31/50"},              // from 0.618.. on
		{loop.Loop{Gain: "1/2", Leak: "1", Prediction: "0", Delay: 6}, "3/10", "1/4"},                // from 2 sin(90/13 degrees) = 0.241.. on
		{loop.Loop{Gain: "1/2", Leak: "1", Prediction: "1/2"}, "1", "1"},                             // -1/2 (g - 1/2) 1: until the root -1
		{loop.Loop{Gain: "1/2", Leak: "1/" + nines600, Prediction: "0", Delay: 1}, "1", "1"},         // the root is beyond -1 just before
		{loop.Loop{Gain: "1/2", Leak: "1/" + nines600, Prediction: "0"}, "11/10", "101/100"},         // from a bit above 1 on
		{loop.Loop{Gain: nines600, Leak: "0", Prediction: "1/" + nines600, Delay: 6}, "1", "1"},      // from a bit below 1 on
		{loop.Loop{Gain: nines600, Leak: "0", Prediction: "1/" + nines600}, "1", "1"},                // the same
		{loop.Loop{Gain: "1", Leak: nines600[:599] + "/" + power10(599), Prediction: "0"}, "2", "2"}, // from a bit below 2 on
	} {
		want(t, "Limit", both(loop.Limit(row.l, 1)), is(row.one))
		want(t, "Limit", both(loop.Limit(row.l, 2)), is(row.hundred))
	}
}

func TestLimitByDefinition(t *testing.T) {
	random := rand.New(rand.NewSource(2))
	for range 60 {
		l, decimals := someLoop(random), 1+random.Intn(2)
		unit := big.NewRat(1, 10)
		if decimals == 2 {
			unit = big.NewRat(1, 100)
		}
		gain := unit
		for isStable(t, l, gain) {
			gain = plus(gain, unit)
		}
		want(t, "Limit", both(loop.Limit(l, decimals)), is(rat(gain)))
		margin := both(loop.Margin(l, decimals))
		switch {
		case !isStable(t, l, value(l.Gain)):
			want(t, "Margin", margin, fails[api.Rat](api.ErrUnstable))
		case l.Gain == "0":
			want(t, "Margin", margin, fails[api.Rat](api.ErrZero))
		default:
			want(t, "Margin", margin, is(rat(over(gain, value(l.Gain)))))
		}
	}
}

// magnitudes returns the least and the greatest magnitude of the numbers of a span.
func magnitudes(s api.Span) (least, greatest *big.Rat) {
	low, high := value(s.Low), value(s.High)
	least, greatest = size(low), size(high)
	if least.Cmp(greatest) > 0 {
		least, greatest = greatest, least
	}
	if low.Sign() <= 0 && high.Sign() >= 0 {
		least = new(big.Rat)
	}
	return least, greatest
}

// certified makes the certificate with the functions of package number, as the chapter defines it.
func certified(t *testing.T, l loop.Loop, gains api.Span) bool {
	t.Helper()
	operate := func(f func(a, b api.Span) (api.Span, api.Errno), a, b api.Span) api.Span {
		s, e := f(a, b)
		if e != api.OK {
			t.Fatalf("spans %v and %v: error %d", a, b, e)
		}
		return s
	}
	l.Gain = "0"
	var p []api.Span
	for _, a := range closed(l).rats() {
		p = append(p, api.Span{Low: a, High: a})
	}
	p[1] = operate(number.Plus, p[1], gains)
	for n := len(p) - 1; n >= 1; n-- {
		s, last := p[0], p[n]
		_, greatest := magnitudes(s)
		least, _ := magnitudes(last)
		if greatest.Cmp(least) >= 0 {
			return false
		}
		var q []api.Span
		for k := range n {
			q = append(q, operate(number.Minus, operate(number.Times, last, p[k+1]), operate(number.Times, s, p[n-1-k])))
		}
		p = q
	}
	return true
}

func TestCertified(t *testing.T) {
	random := rand.New(rand.NewSource(3))
	var yes int
	for range 1500 {
		l := someLoop(random)
		if l.Delay > 4 { // the numbers of the definition have too many digits then
			l.Delay -= 3
		}
		if random.Intn(2) == 0 {
			l.Leak = "3/4"
		}
		low := big.NewRat(random.Int63n(20), 20)
		gains := api.Span{Low: rat(low), High: rat(plus(low, big.NewRat(random.Int63n(8), 1+random.Int63n(40))))}
		expected := certified(t, l, gains)
		if expected {
			yes++
		}
		want(t, "Certified", both(loop.Certified(l, gains)), is(expected))
	}
	if yes < 300 || yes > 1200 {
		t.Errorf("%d certificates", yes)
	}
}

func TestCertifiedAtTheEnds(t *testing.T) {
	for _, row := range []struct {
		l         loop.Loop
		low, high api.Rat
		certified bool
	}{
		{example(), "0", "1", false}, // with the gain 0 there is the root 1
		{example(), "1/" + nines600, "1", true},
		{example(), "1/" + nines600, "2", false},
		{example(), "1/100", "199/100", true},
		{example(), "1/2", "1/2", true},
		{unstable(), "1/2", "1/2", true},
		{loop.Loop{Gain: "9", Leak: "1/2", Prediction: "0"}, "0", "1", true},
		{loop.Loop{Gain: "9", Leak: "1/2", Prediction: "0"}, "0", "0", true},
		{loop.Loop{Gain: "9", Leak: "0", Prediction: "0", Delay: 6}, "0", "99/100", true},
		{loop.Loop{Gain: "9", Leak: "0", Prediction: "0", Delay: 6}, "0", "1", false},
		{loop.Loop{Gain: "0", Leak: "1", Prediction: "1"}, "1/2", "1/2", false},
		{loop.Loop{Gain: "0", Leak: "1/" + nines600, Prediction: "1/" + nines600, Delay: 6}, "1/" + nines600, "1/2", true},
		{loop.Loop{Gain: "0", Leak: "1/" + nines600, Prediction: "1/" + nines600, Delay: 6}, "1/2", nines600, false},
	} {
		want(t, "Certified", both(loop.Certified(row.l, api.Span{Low: row.low, High: row.high})), is(row.certified))
	}
	// Stable for all gains from 1/10 to 9/10, but without a certificate.
	gains := api.Span{Low: "1/10", High: "9/10"}
	want(t, "Certified", both(loop.Certified(delayed(1), gains)), is(false))
}

func TestSteady(t *testing.T) {
	random := rand.New(rand.NewSource(4))
	for range 200 {
		l := someLoop(random)
		expected := fails[api.Rat](api.ErrUnstable)
		if isStable(t, l, value(l.Gain)) {
			lost := minus(integer(1), value(l.Leak))
			expected = is(rat(over(lost, plus(lost, value(l.Gain)))))
		}
		want(t, "Steady", both(loop.Steady(l)), expected)
	}
	for _, row := range []struct {
		l      loop.Loop
		steady result[api.Rat]
	}{
		{loop.Loop{Gain: "0", Leak: "0", Prediction: "0", Delay: 6}, is(api.Rat("1"))},
		{loop.Loop{Gain: "0", Leak: "1", Prediction: "0"}, fails[api.Rat](api.ErrUnstable)},
		{loop.Loop{Gain: "1/2", Leak: "1", Prediction: "1/4", Delay: 1}, is(api.Rat("0"))},
		{loop.Loop{Gain: "1/" + nines600, Leak: "0", Prediction: "0"}, fails[api.Rat](api.ErrLarge)}, // 1/(1 + 1/nines600)
		{loop.Loop{Gain: "1/" + nines600[:599], Leak: "0", Prediction: "0"}, is(nines600[:599] + "/" + power10(599))},
	} {
		want(t, "Steady", both(loop.Steady(row.l)), row.steady)
	}
}

func TestMargin(t *testing.T) {
	for _, row := range []struct {
		l      loop.Loop
		margin result[api.Rat]
	}{
		{delayed(1), is(api.Rat("2"))},
		{unstable(), fails[api.Rat](api.ErrUnstable)},
		{loop.Loop{Gain: "0", Leak: "1", Prediction: "0"}, fails[api.Rat](api.ErrUnstable)},
		{loop.Loop{Gain: "0", Leak: "1/2", Prediction: "0"}, fails[api.Rat](api.ErrZero)},
		{loop.Loop{Gain: "1/" + nines600, Leak: "1", Prediction: "0"}, fails[api.Rat](api.ErrLarge)},
		{loop.Loop{Gain: "1/" + nines600, Leak: "0", Prediction: "0"}, is(nines600)},
	} {
		want(t, "Margin", both(loop.Margin(row.l, 1)), row.margin)
		want(t, "Margin", both(loop.Margin(row.l, 2)), row.margin)
	}
}

func TestWrongLoops(t *testing.T) {
	for _, w := range wrongLoops() {
		want(t, "CheckLoop", loop.CheckLoop(w.l), w.e)
		want(t, "Closed", both(loop.Closed(w.l)), fails[[]api.Rat](w.e))
		want(t, "Steady", both(loop.Steady(w.l)), fails[api.Rat](w.e))
		for _, decimals := range []int{0, 1} {
			want(t, "Limit", both(loop.Limit(w.l, decimals)), fails[api.Rat](w.e))
			want(t, "Margin", both(loop.Margin(w.l, decimals)), fails[api.Rat](w.e))
		}
		want(t, "Certified", both(loop.Certified(w.l, api.Span{})), fails[bool](w.e))
		want(t, "Certified", both(loop.Certified(w.l, api.Span{Low: "0", High: "1"})), fails[bool](w.e))
	}
	for _, decimals := range []int{-far - 1, -1, 0, 3, far} {
		want(t, "Limit", both(loop.Limit(example(), decimals)), fails[api.Rat](api.ErrRange))
		want(t, "Margin", both(loop.Margin(unstable(), decimals)), fails[api.Rat](api.ErrRange))
	}
	for _, w := range wrongRats() {
		want(t, "Certified", both(loop.Certified(unstable(), api.Span{Low: w.a, High: "?"})), fails[bool](w.e))
		want(t, "Certified", both(loop.Certified(example(), api.Span{Low: "-1", High: w.a})), fails[bool](w.e))
	}
	want(t, "Certified", both(loop.Certified(example(), api.Span{Low: "-1", High: "-2"})), fails[bool](api.ErrOrder))
	want(t, "Certified", both(loop.Certified(example(), api.Span{Low: "-1/" + nines600, High: "1"})), fails[bool](api.ErrRange))
	want(t, "Certified", both(loop.Certified(example(), api.Span{Low: "1", High: "1/2"})), fails[bool](api.ErrOrder))
}
