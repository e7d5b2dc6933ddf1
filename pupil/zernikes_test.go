package pupil_test

import (
	"math/big"
	"math/rand"
	"testing"

	"lenslet/api"
	"lenslet/pupil"
)

// P2.3

// factorial returns the product of the numbers from 1 to n.
func factorial(n int) *big.Rat {
	product := integer(1)
	for k := 1; k <= n; k++ {
		product.Mul(product, integer(k))
	}
	return product
}

// binomial returns the number of choices of k from n.
func binomial(n, k int) *big.Rat {
	return over(factorial(n), times(factorial(k), factorial(n-k)))
}

// zernike returns a Zernike polynomial, each product of powers of which is made by itself.
func zernike(n, m int) pupil.Poly {
	k := max(m, -m)
	all := map[[2]int]*big.Rat{}
	for s := 0; s <= (n-k)/2; s++ {
		half := (n-k)/2 - s
		c := over(factorial(n-s), times(factorial(s), times(factorial((n+k)/2-s), factorial(half))))
		c.Mul(c, power(integer(-1), s))
		for a := 0; a <= half; a++ {
			for b := 0; b <= k; b++ { // the power of iY, whose sign changes after two steps
				if (b%2 == 1) != (m < 0) {
					continue
				}
				at := [2]int{2*(half-a) + k - b, 2*a + b}
				part := times(times(c, binomial(half, a)), times(binomial(k, b), power(integer(-1), b/2)))
				if all[at] == nil {
					all[at] = new(big.Rat)
				}
				all[at].Add(all[at], part)
			}
		}
	}
	return poly(all)
}

func TestZernike(t *testing.T) {
	for n := -3; n <= pupil.MaxZernike+3; n++ {
		for m := -n - 3; m <= n+3; m++ {
			wanted := fails[pupil.Poly](api.ErrRange)
			switch {
			case n < 0 || n > 8 || m < -n || m > n:
			case (n-m)%2 != 0:
				wanted = fails[pupil.Poly](api.ErrRule)
			default:
				wanted = is(zernike(n, m))
			}
			want(t, "Zernike", both(pupil.Zernike(n, m)), wanted)
		}
	}
	for _, row := range []struct {
		n, m int
		r    result[pupil.Poly]
	}{
		{0, 0, is(pupil.Poly{{"1", 0, 0}})},
		{1, 1, is(pupil.Poly{{"1", 1, 0}})},
		{1, -1, is(pupil.Poly{{"1", 0, 1}})},
		{2, 0, is(pupil.Poly{{"-1", 0, 0}, {"2", 2, 0}, {"2", 0, 2}})},
		{2, 2, is(pupil.Poly{{"1", 2, 0}, {"-1", 0, 2}})},
		{2, -2, is(pupil.Poly{{"2", 1, 1}})},
		{3, 1, is(pupil.Poly{{"-2", 1, 0}, {"3", 3, 0}, {"3", 1, 2}})},
		{8, 8, is(pupil.Poly{{"1", 8, 0}, {"-28", 6, 2}, {"70", 4, 4}, {"-28", 2, 6}, {"1", 0, 8}})},
		{9, 1, fails[pupil.Poly](api.ErrRange)},
		{-1, 0, fails[pupil.Poly](api.ErrRange)},
		{3, 5, fails[pupil.Poly](api.ErrRange)},
		{3, -4, fails[pupil.Poly](api.ErrRange)},
		{3, 2, fails[pupil.Poly](api.ErrRule)},
		{1 << 62, 0, fails[pupil.Poly](api.ErrRange)},
		{-1 << 63, -1 << 63, fails[pupil.Poly](api.ErrRange)},
		{8, -1 << 63, fails[pupil.Poly](api.ErrRange)},
		{8, 1<<63 - 1, fails[pupil.Poly](api.ErrRange)},
	} {
		want(t, "Zernike", both(pupil.Zernike(row.n, row.m)), row.r)
	}
}

// semifactorial returns k!!.
func semifactorial(k int) *big.Rat {
	if k <= 0 {
		return integer(1)
	}
	return times(integer(k), semifactorial(k-2))
}

// integral returns the integral of X^a Y^b over the full disc, divided by pi.
func integral(a, b int) *big.Rat {
	if a%2 == 1 || b%2 == 1 {
		return new(big.Rat)
	}
	above := times(integer(2), times(semifactorial(a-1), semifactorial(b-1)))
	return over(above, times(semifactorial(a+b), integer(a+b+2)))
}

func TestDiscProduct(t *testing.T) {
	random := rand.New(rand.NewSource(21))
	for range 300 {
		f, g := someTerms(random), someTerms(random)
		sum := new(big.Rat)
		for a, c := range coefficients(f) {
			for b, d := range coefficients(g) {
				sum.Add(sum, times(times(c, d), integral(a[0]+b[0], a[1]+b[1])))
			}
		}
		wanted := limited([]*big.Rat{sum})
		got := both(pupil.DiscProduct(f, g))
		want(t, "DiscProduct", got.Error, wanted.Error)
		if got.Error == api.OK {
			want(t, "DiscProduct", []api.Rat{got.Value}, wanted.Value)
		}
	}
}

func TestDiscProductOfExamples(t *testing.T) {
	one, x, focus := pupil.Poly{{"1", 0, 0}}, pupil.Poly{{"1", 1, 0}}, pupil.Poly{{"-1", 0, 0}, {"2", 2, 0}, {"2", 0, 2}}
	large := pupil.Poly{{nines600, 0, 0}}
	for _, row := range []struct {
		f, g pupil.Poly
		r    result[api.Rat]
	}{
		{focus, focus, is(api.Rat("1/3"))},
		{focus, one, is(api.Rat("0"))},
		{x, x, is(api.Rat("1/4"))},
		{one, one, is(api.Rat("1"))},
		{nil, one, is(api.Rat("0"))},
		{one, nil, is(api.Rat("0"))},
		{pupil.Poly{{"1", 16, 0}}, pupil.Poly{{"1", 0, 16}}, is(rat(integral(16, 16)))},
		{pupil.Poly{{"1", 16, 0}}, pupil.Poly{{"1", 16, 0}}, is(rat(integral(32, 0)))},
		{pupil.Poly{{"1", 15, 1}}, pupil.Poly{{"1", 15, 0}}, is(api.Rat("0"))},
		{large, one, is(nines600)},
		{large, large, fails[api.Rat](api.ErrLarge)},
		{large, pupil.Poly{{"1/" + nines600, 0, 0}}, is(api.Rat("1"))},
		{large, x, is(api.Rat("0"))},
	} {
		want(t, "DiscProduct", both(pupil.DiscProduct(row.f, row.g)), row.r)
	}
	for _, row := range wrongPolys() {
		want(t, "DiscProduct", both(pupil.DiscProduct(row.f, pupil.Poly{{digits601, -1, 0}})), fails[api.Rat](row.e))
		want(t, "DiscProduct", both(pupil.DiscProduct(one, row.f)), fails[api.Rat](row.e))
	}
}
