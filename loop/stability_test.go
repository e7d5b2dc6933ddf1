package loop_test

import (
	"math/big"
	"math/cmplx"
	"math/rand"
	"testing"

	"lenslet/api"
	"lenslet/loop"
)

// P6.2: stability.

func TestStable(t *testing.T) {
	for _, row := range []struct {
		p      string
		stable bool
	}{
		{"-1/6 -1/6 1", true},
		{"1 1", false},   // the root -1
		{"-1 1", false},  // the root 1
		{"1 0 1", false}, // roots on the unit circle, which are not real
		{"1 -1 1", false},
		{"1 -6/5 1", false}, // the same, at no rational turn
		{"0 1 0 1", false},
		{"-1/2 1/2 -1/2 1/2", false},
		{"1/4 -1 1", true}, // the root 1/2, twice
		{"1 -2 1", false},  // the root 1, twice
		{"1 0 2 0 1", false},
		{"4 -4 1", false},
		{"0 0 0 1", true}, // the root 0, three times
		{"0 0 0 1 2", true},
		{"0 0 0 2 1", false},
		{"0 1 1", false},
		{"7", true}, // no root at all
		{"-1/3", true},
		{"0 0 0 0 0 0 0 0 0 0 0 0 -1/9", true},
		{"1 0 0 0 0 0 0 0 0 0 0 0 2", true},
		{"2 0 0 0 0 0 0 0 0 0 0 0 1", false},
		{"-1 0 0 0 0 0 0 0 0 0 0 0 1", false},
		{"1 -5/2 1", false}, // roots of which one is the inverse of the other
		{"0 0 2 -5 2", false},
		{"0 1 -5/2 1", false},
		{"-1 -2", true},
		{"-2 -1", false},
	} {
		want(t, "Stable of "+row.p, both(loop.Stable(list(row.p))), is(row.stable))
	}
}

func TestStableNextToTheCircle(t *testing.T) {
	almost := nines600[:599] + "/" + power10(599)
	beyond := power10(599) + "/" + nines600[:599]
	for _, row := range []struct {
		p      []api.Rat
		stable bool
	}{
		{[]api.Rat{almost, "1"}, true},
		{[]api.Rat{beyond, "1"}, false},
		{[]api.Rat{"-" + almost, "0", "1"}, true},
		{[]api.Rat{"-" + beyond, "0", "1"}, false},
		{[]api.Rat{almost, almost, almost, almost, almost, almost, almost, almost, almost, almost, almost, almost, "1"}, true},
		{[]api.Rat{beyond, beyond, beyond, beyond, beyond, beyond, beyond, beyond, beyond, beyond, beyond, beyond, "1"}, false},
		{repeated(nines600, 13), false}, // the roots are those of 1, other than 1 itself
		{repeated("-1/"+nines600, 13), false},
		{[]api.Rat{nines600, "1/" + nines600}, false},
		{[]api.Rat{"1/" + nines600, nines600}, true},
		{[]api.Rat{"1/" + nines600, nines600, "0"}, false},
	} {
		want(t, "Stable of large numbers", both(loop.Stable(row.p)), both(row.stable, loop.CheckPoly(row.p)))
	}
}

// factor is a polynomial whose roots all have the same magnitude.
type factor struct {
	p    numbers
	size *big.Rat
}

// someFactor returns a polynomial with one root, or with two that are not real.
func someFactor(random *rand.Rand, size *big.Rat) factor {
	if random.Intn(2) == 0 {
		root := size
		if random.Intn(2) == 0 {
			root = times(size, integer(-1))
		}
		return factor{numbers{root, integer(1)}, size}
	}
	cosine := big.NewRat(int64(random.Intn(19)-9), 10)
	return factor{numbers{times(size, size), times(integer(-2), times(size, cosine)), integer(1)}, size}
}

// someProduct returns a product of factors, and the greatest magnitude of its roots.
func someProduct(random *rand.Rand, sizes []*big.Rat, degree int) (numbers, *big.Rat) {
	p, greatest := numbers{big.NewRat(int64(1+random.Intn(5)), int64(-1-random.Intn(5)))}, new(big.Rat)
	for len(p) <= degree {
		f := someFactor(random, sizes[random.Intn(len(sizes))])
		if len(p)+len(f.p)-1 > api.MaxOrder+1 {
			break
		}
		p = p.times(f.p)
		if f.size.Cmp(greatest) > 0 {
			greatest = f.size
		}
	}
	return p, greatest
}

// radiusOf returns the span with decimals that contains a magnitude.
func radiusOf(greatest *big.Rat, decimals int) api.Span {
	units := new(big.Int).Exp(big.NewInt(10), big.NewInt(int64(decimals)), nil)
	scaled := times(greatest, new(big.Rat).SetInt(units))
	n := new(big.Int).Quo(scaled.Num(), scaled.Denom())
	end := new(big.Int).Add(n, big.NewInt(1))
	return api.Span{Low: rat(new(big.Rat).SetFrac(n, units)), High: rat(new(big.Rat).SetFrac(end, units))}
}

// TestProductsNextToTheCircle has roots so near to the unit circle, or on it, that coefficients with a
// few digits do not tell on which side they are.
func TestProductsNextToTheCircle(t *testing.T) {
	random := rand.New(rand.NewSource(5))
	one, tiny := integer(1), value("1/"+power10(30))
	inside := []*big.Rat{minus(one, tiny), minus(one, times(tiny, integer(3))), big.NewRat(1, 2)}
	all := append([]*big.Rat{one, plus(one, tiny), plus(one, times(tiny, integer(7)))}, inside...)
	for n := range 80 {
		sizes := inside
		switch n % 4 {
		case 0:
			sizes = all
		case 1:
			sizes = append([]*big.Rat{one}, inside...)
		}
		p, greatest := someProduct(random, sizes, 1+random.Intn(api.MaxOrder))
		want(t, "Stable", both(loop.Stable(p.rats())), is(greatest.Cmp(one) < 0))
		want(t, "Radius", both(loop.Radius(p.rats(), 3)), is(radiusOf(greatest, 3)))
	}
}

func TestProductsOfKnownFactors(t *testing.T) {
	random := rand.New(rand.NewSource(2))
	inside := []*big.Rat{integer(0), big.NewRat(1, 2), big.NewRat(1, 3), big.NewRat(9, 10), big.NewRat(999, 1000), big.NewRat(12345, 1000000)}
	all := append([]*big.Rat{integer(1), big.NewRat(1001, 1000), integer(2), big.NewRat(7, 3)}, inside...)
	for n := range 240 {
		sizes := inside
		switch n % 4 {
		case 0:
			sizes = all
		case 1:
			sizes = append([]*big.Rat{integer(1)}, inside...)
		}
		p, greatest := someProduct(random, sizes, 1+random.Intn(api.MaxOrder))
		want(t, "Stable", both(loop.Stable(p.rats())), is(greatest.Cmp(integer(1)) < 0))
		for decimals := 1; decimals <= 3; decimals++ {
			want(t, "Radius", both(loop.Radius(p.rats(), decimals)), is(radiusOf(greatest, decimals)))
		}
	}
}

// roots returns approximations of the roots of a polynomial (Durand's and Kerner's), and whether they are good.
func roots(p numbers) ([]complex128, bool) {
	degree := len(p) - 1
	coefficients := make([]complex128, degree+1)
	for k, a := range p {
		f, _ := over(a, p[degree]).Float64()
		coefficients[k] = complex(f, 0)
	}
	z := make([]complex128, degree)
	for i := range z {
		z[i] = cmplx.Pow(complex(0.4, 0.9), complex(float64(i), 0))
	}
	change := 1.0
	for step := 0; step < 2000 && change > 1e-12; step++ {
		change = 0
		for i := range z {
			value, others := complex128(0), complex128(1)
			for k := degree; k >= 0; k-- {
				value = value*z[i] + coefficients[k]
			}
			for j := range z {
				if j != i {
					others *= z[i] - z[j]
				}
			}
			z[i] -= value / others
			change = max(change, cmplx.Abs(value/others))
		}
	}
	return z, change <= 1e-12
}

func TestAgainstApproximateRoots(t *testing.T) {
	random := rand.New(rand.NewSource(3))
	var stable, all int
	for range 1200 {
		p := somePoly(random, 1+random.Intn(api.MaxOrder))
		if random.Intn(3) > 0 { // so that many are stable
			p[len(p)-1] = times(p[len(p)-1], integer(1+random.Intn(9)))
		}
		z, good := roots(p)
		var greatest float64
		for _, root := range z {
			greatest = max(greatest, cmplx.Abs(root))
		}
		if !good || greatest > 0.9999 && greatest < 1.0001 {
			continue
		}
		all++
		if greatest < 1 {
			stable++
		}
		want(t, "Stable", both(loop.Stable(p.rats())), is(greatest < 1))
		span := both(loop.Radius(p.rats(), 3))
		low, _ := value(span.Value.Low).Float64()
		high, _ := value(span.Value.High).Float64()
		if span.Error != api.OK || greatest < low-1e-6 || greatest > high+1e-6 {
			t.Errorf("Radius of %v: got %v for %v", p.rats(), span, greatest)
		}
	}
	if all < 800 || stable < 200 {
		t.Errorf("only %d polynomials, and %d stable ones", all, stable)
	}
}

func TestRadius(t *testing.T) {
	for _, row := range []struct {
		p         string
		decimals  int
		low, high api.Rat
	}{
		{"-1/6 -1/6 1", 1, "1/2", "3/5"},
		{"1 1", 1, "1", "11/10"},
		{"-999/1000 1", 3, "999/1000", "1"},
		{"-1 1000", 3, "1/1000", "1/500"},
		{"-1 1001", 3, "0", "1/1000"},
		{"0 0 1", 2, "0", "1/100"},
		{"-2 0 1", 3, "707/500", "283/200"},
		{"-1000000007 1", 2, "1000000007", "100000000701/100"},
		{"1 0 0 0 0 0 0 0 0 0 0 0 4096", 1, "1/2", "3/5"},
		{"4096 0 0 0 0 0 0 0 0 0 0 0 1", 3, "2", "2001/1000"},
	} {
		want(t, "Radius of "+row.p, both(loop.Radius(list(row.p), row.decimals)), is(api.Span{Low: row.low, High: row.high}))
	}
}

func TestRadiusOfLargeRoots(t *testing.T) {
	root := nines600[:596]
	want(t, "Radius with 600 digits", both(loop.Radius([]api.Rat{"-" + root, "1"}, 3)), is(api.Span{Low: root, High: root + "001/1000"}))
	want(t, "Radius with 601 digits", both(loop.Radius([]api.Rat{nines600[:598], "1"}, 3)), fails[api.Span](api.ErrLarge))
	odd := power10(599)[1:] // for 1/2 above a power of 10, and 1/10 more
	want(t, "Radius with 600 digits", both(loop.Radius([]api.Rat{"2" + odd[1:] + "1", "2"}, 1)), is(api.Span{Low: "2" + odd[1:] + "1/2", High: "5" + odd[1:] + "3/5"}))
	want(t, "Radius with 601 digits", both(loop.Radius([]api.Rat{nines600, "1"}, 1)), fails[api.Span](api.ErrLarge))
	want(t, "Radius with 1200 digits", both(loop.Radius([]api.Rat{nines600, "1/" + nines600}, 1)), fails[api.Span](api.ErrLarge))
	want(t, "Radius of equal large coefficients", both(loop.Radius(repeated(nines600, 13), 1)), is(api.Span{Low: "1", High: "11/10"}))
	want(t, "Radius of a small root", both(loop.Radius([]api.Rat{"1", nines600}, 2)), is(api.Span{Low: "0", High: "1/100"}))
	high := []api.Rat{nines600, "0", "0", "0", "0", "0", "0", "0", "0", "0", "0", "0", "1"}
	want(t, "Radius of the 12th root", both(loop.Radius(high, 1)), is(api.Span{Low: nines600[:50] + "9/10", High: power10(50)}))
	high[0] = "-" + power10(588)
	want(t, "Radius of the 12th root", both(loop.Radius(high, 3)), is(api.Span{Low: power10(49), High: power10(49) + "001/1000"}))
}

// decay returns the norm of a power of the companion matrix, by multiplication.
func decay(p numbers, n int) *big.Rat {
	degree := len(p) - 1
	companion, power := make([]numbers, degree), make([]numbers, degree)
	for i := range degree {
		companion[i], power[i] = zeros(degree), zeros(degree)
		power[i][i] = integer(1)
		if i < degree-1 {
			companion[i][i+1] = integer(1)
		}
	}
	for k := range degree {
		companion[degree-1][k] = minus(new(big.Rat), over(p[k], p[degree]))
	}
	for range n {
		next := make([]numbers, degree)
		for i := range degree {
			next[i] = zeros(degree)
			for k := range degree {
				for j := range degree {
					next[i][j] = plus(next[i][j], times(power[i][k], companion[k][j]))
				}
			}
		}
		power = next
	}
	norm := new(big.Rat)
	for _, row := range power {
		sum := new(big.Rat)
		for _, a := range row {
			sum = plus(sum, size(a))
		}
		if sum.Cmp(norm) > 0 {
			norm = sum
		}
	}
	return norm
}

func TestDecay(t *testing.T) {
	p := list("-1/6 -1/6 1")
	want(t, "Decay", both(loop.Decay(p, 0)), is(api.Rat("1")))
	want(t, "Decay", both(loop.Decay(p, 1)), is(api.Rat("1")))
	want(t, "Decay", both(loop.Decay(p, 2)), is(api.Rat("1/3")))
	want(t, "Decay of degree 1", both(loop.Decay(list("3 2"), 32)), is(rat(decay(values(list("3 2")), 32))))
	want(t, "Decay of roots 0", both(loop.Decay(list("0 0 0 -5"), 3)), is(api.Rat("0")))
	want(t, "Decay of roots 0", both(loop.Decay(list("0 0 0 -5"), 2)), is(api.Rat("1")))
	random := rand.New(rand.NewSource(4))
	for k := range 100 {
		p, n := somePoly(random, 1+random.Intn(api.MaxOrder)), random.Intn(9)
		if k%10 == 0 {
			n = loop.MaxPower
		}
		want(t, "Decay", both(loop.Decay(p.rats(), n)), is(rat(decay(p, n))))
	}
}

func TestDecayOfLargeNumbers(t *testing.T) {
	want(t, "Decay with 600 digits", both(loop.Decay([]api.Rat{nines600, "1"}, 1)), is(nines600))
	want(t, "Decay with 601 digits", both(loop.Decay([]api.Rat{"1", nines600, "1"}, 1)), fails[api.Rat](api.ErrLarge))
	want(t, "Decay with 601 digits", both(loop.Decay([]api.Rat{power10(300), "1"}, 2)), fails[api.Rat](api.ErrLarge))
	want(t, "Decay with 601 digits below", both(loop.Decay([]api.Rat{"1", power10(300)}, 2)), fails[api.Rat](api.ErrLarge))
	want(t, "Decay with the power 0", both(loop.Decay(repeated(nines600, 13), 0)), is(api.Rat("1")))
	want(t, "Decay with 1200 digits", both(loop.Decay([]api.Rat{"1/" + nines600, nines600}, 1)), fails[api.Rat](api.ErrLarge))
	// The numbers of the first row of the power have 700 digits below, but their sum has not.
	high := power10(399)
	p := []api.Rat{"7/" + power10(300), high[:399] + "9/" + power10(300), high[:398] + "16"}
	want(t, "Decay by way of larger numbers", both(loop.Decay(p, 2)), is("1/"+power10(300)))
	third := api.Rat("1/" + power10(300)[:300] + "1")
	want(t, "Decay of parts with 600 digits", both(loop.Decay([]api.Rat{third, third, "1"}, 1)), is(api.Rat("1")))
}

func TestWrongStability(t *testing.T) {
	for _, w := range wrongPolys() {
		want(t, "Stable", both(loop.Stable(w.list)), fails[bool](w.e))
		want(t, "Radius", both(loop.Radius(w.list, 0)), fails[api.Span](w.e))
		want(t, "Radius", both(loop.Radius(w.list, 1)), fails[api.Span](w.e))
		want(t, "Decay", both(loop.Decay(w.list, -1)), fails[api.Rat](w.e))
		want(t, "Decay", both(loop.Decay(w.list, 1)), fails[api.Rat](w.e))
	}
	for _, decimals := range []int{-far - 1, -1, 0, 4, far} {
		want(t, "Radius", both(loop.Radius(list("1"), decimals)), fails[api.Span](api.ErrRange))
		want(t, "Radius", both(loop.Radius(list("1 2"), decimals)), fails[api.Span](api.ErrRange))
	}
	for _, n := range []int{-far - 1, -1, loop.MaxPower + 1, far} {
		want(t, "Decay", both(loop.Decay(list("1"), n)), fails[api.Rat](api.ErrRange))
		want(t, "Decay", both(loop.Decay(list("1 2"), n)), fails[api.Rat](api.ErrRange))
	}
	want(t, "Radius of degree 0", both(loop.Radius(list("1"), 1)), fails[api.Span](api.ErrNone))
	want(t, "Decay of degree 0", both(loop.Decay(list("1"), 0)), fails[api.Rat](api.ErrNone))
}
