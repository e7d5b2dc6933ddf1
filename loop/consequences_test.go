package loop_test

import (
	"math"
	"math/big"
	"math/rand"
	"testing"

	"lenslet/api"
	"lenslet/loop"
)

// P6.6 (and P6 of DOC.md): consequences.

func TestPowersBelow1(t *testing.T) {
	random := rand.New(rand.NewSource(1))
	var found int
	for range 200 {
		p := somePoly(random, 1+random.Intn(5))
		last := len(p) - 1
		p[last] = times(p[last], integer(1+random.Intn(6)))
		stable, _ := loop.Stable(p.rats())
		for _, n := range []int{1, 2, 5, 13, 32} {
			norm := both(loop.Decay(p.rats(), n))
			if norm.Error != api.OK || value(norm.Value).Cmp(integer(1)) >= 0 {
				continue
			}
			found++
			if !stable {
				t.Errorf("%v is unstable, but its power %d has the norm %s", p.rats(), n, norm.Value)
			}
		}
	}
	if found < 100 {
		t.Errorf("only %d norms below 1", found)
	}
}

func TestProductsOfRoots(t *testing.T) {
	random := rand.New(rand.NewSource(2))
	for range 60 {
		p, greatest := []api.Rat{"1"}, new(big.Rat)
		for range 1 + random.Intn(6) {
			root := big.NewRat(random.Int63n(21)-10, 10)
			p, _ = loop.Multiply(p, numbers{times(root, integer(-1)), integer(1)}.rats())
			if size(root).Cmp(greatest) > 0 {
				greatest = size(root)
			}
		}
		want(t, "Stable", both(loop.Stable(p)), is(greatest.Cmp(integer(1)) < 0))
		r := both(loop.Radius(p, 2))
		if r.Error != api.OK || value(r.Value.Low).Cmp(greatest) > 0 || value(r.Value.High).Cmp(greatest) <= 0 {
			t.Errorf("Radius of %v: got %v, want %v in it", p, r, greatest)
		}
		// The roots of a scaled polynomial are those of the polynomial, divided by the number.
		half, _ := loop.Scaled(p, "1/2")
		want(t, "Stable of a scaled polynomial", both(loop.Stable(half)), is(greatest.Cmp(big.NewRat(1, 2)) < 0))
	}
}

func TestCertifiedGainsAreStable(t *testing.T) {
	random := rand.New(rand.NewSource(3))
	var found int
	for range 300 {
		l := someLoop(random)
		low, width := big.NewRat(random.Int63n(20), 20), big.NewRat(random.Int63n(12), 20)
		yes, e := loop.Certified(l, api.Span{Low: rat(low), High: rat(plus(low, width))})
		want(t, "Certified", e, api.OK)
		if !yes {
			continue
		}
		found++
		for k := range 9 {
			gain := plus(low, times(width, big.NewRat(int64(k), 8)))
			if !isStable(t, l, gain) {
				t.Errorf("%v is certified, but unstable with the gain %v", l, gain)
			}
		}
	}
	if found < 30 {
		t.Errorf("only %d certificates", found)
	}
}

func TestGainsBelowTheLimit(t *testing.T) {
	random := rand.New(rand.NewSource(4))
	for range 40 {
		l := someLoop(random)
		limit, e := loop.Limit(l, 2)
		want(t, "Limit", e, api.OK)
		unit := big.NewRat(1, 100)
		for gain := unit; gain.Cmp(value(limit)) < 0; gain = plus(gain, unit) {
			if !isStable(t, l, gain) {
				t.Errorf("%v has the limit %s, but is unstable with the gain %v", l, limit, gain)
			}
		}
		if isStable(t, l, value(limit)) {
			t.Errorf("%v is stable at its limit %s", l, limit)
		}
	}
}

func TestRunsAreLinear(t *testing.T) {
	random := rand.New(rand.NewSource(5))
	for range 60 {
		l, n := someLoop(random), random.Intn(12)
		x, y, factor := someList(random, n), someList(random, n), small(random)
		sum := zeros(n)
		for i := range sum {
			sum[i] = plus(x[i], times(factor, y[i]))
		}
		of := func(d numbers) (numbers, numbers) {
			residuals, commands, e := loop.Run(l, d.rats())
			want(t, "Run", e, api.OK)
			return values(residuals), values(commands)
		}
		e1, u1 := of(x)
		e2, u2 := of(y)
		e3, u3 := of(sum)
		for i := range sum {
			want(t, "residual of a sum", rat(e3[i]), rat(plus(e1[i], times(factor, e2[i]))))
			want(t, "command of a sum", rat(u3[i]), rat(plus(u1[i], times(factor, u2[i]))))
		}
		late := random.Intn(5)
		e4, _ := of(append(zeros(late), x...))
		want(t, "residuals later", e4.rats(), append(zeros(late), e1...).rats())
	}
}

// TestRecurrence applies the closed polynomial to the residuals after an impulse.
func TestRecurrence(t *testing.T) {
	random := rand.New(rand.NewSource(6))
	for range 60 {
		l := someLoop(random)
		p, _ := loop.Closed(l)
		impulse, e := loop.Impulse(l, 24)
		want(t, "Impulse", e, api.OK)
		residuals := values(impulse)
		// The disturbance itself is felt in the first frames: by z - a times the powers of the delay.
		for k := 1; k+len(p) <= len(residuals); k++ {
			sum := new(big.Rat)
			for i, a := range values(p) {
				sum = plus(sum, times(a, residuals[k+i]))
			}
			if sum.Sign() != 0 {
				t.Errorf("%v: the recurrence fails at %d: %v", l, k, sum)
			}
		}
	}
}

func TestSteadyIsTheLimit(t *testing.T) {
	for _, l := range []loop.Loop{example(), {Gain: "1/2", Leak: "1/2", Prediction: "0"}, {Gain: "1/3", Leak: "3/4", Prediction: "1/4", Delay: 1}} {
		residuals, _, e := loop.Run(l, repeated("1", loop.MaxRun))
		want(t, "Run", e, api.OK)
		steady, e := loop.Steady(l)
		want(t, "Steady", e, api.OK)
		off, _ := minus(value(residuals[loop.MaxRun-1]), value(steady)).Float64()
		if math.Abs(off) > 1e-5 {
			t.Errorf("Steady of %v: %s, after 64 frames %s", l, steady, residuals[loop.MaxRun-1])
		}
	}
}

func TestSweepsAreNearRejections(t *testing.T) {
	random := rand.New(rand.NewSource(7))
	for range 30 {
		l, n := someStable(random), 1+random.Intn(12)
		c, e := loop.Sweep(l, n)
		want(t, "Sweep", e, api.OK)
		for k, x := range c {
			s := both(loop.Rejection(l, rat(big.NewRat(int64(k), int64(2*n))), 12))
			if s.Error == api.ErrZero {
				continue
			}
			low, _ := value(s.Value.Low).Float64()
			high, _ := value(s.Value.High).Float64()
			squared := real(x)*real(x) + imag(x)*imag(x)
			if s.Error != api.OK || squared < low-1e-5*(1+high) || squared > high+1e-5*(1+high) {
				t.Errorf("Sweep of %v: %v has the square %v, the rejection is %v", l, x, squared, s)
			}
		}
	}
}
