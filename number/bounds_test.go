package number

import (
	"math/big"
	"math/rand"
	"testing"

	"lenslet/exact"
	"lenslet/whole"
)

// circle is 2 pi with more digits than any test needs.
const circle = "6.28318530717958647692528676655900576839433879875021164194988918461563281257241799725606965068423413596429617303"

// precise returns a float with a precision of 100 decimals.
func precise() *big.Float { return new(big.Float).SetPrec(340) }

// checkBounds reports bounds that do not enclose a value, or are further apart than a number of units.
func checkBounds(t *testing.T, what string, b bounds, value *big.Float, digits int, apart int64) {
	t.Helper()
	low, _ := new(big.Int).SetString(b.low.Text(), 10)
	high, _ := new(big.Int).SetString(b.high.Text(), 10)
	units := new(big.Int).Exp(big.NewInt(10), big.NewInt(int64(digits)), nil)
	scaled := precise().Mul(value, precise().SetInt(units))
	if precise().SetInt(low).Cmp(scaled) > 0 || precise().SetInt(high).Cmp(scaled) < 0 {
		t.Errorf("%s with %d digits: %v is not from %v to %v", what, digits, scaled, low, high)
	}
	if new(big.Int).Sub(high, low).Cmp(big.NewInt(apart)) > 0 {
		t.Errorf("%s with %d digits: %v and %v are too far apart", what, digits, low, high)
	}
}

// series returns the sum of a power series, whose terms are each made from the one before.
func series(first *big.Float, next func(term *big.Float, k int64) *big.Float, divisor func(k int64) int64) *big.Float {
	sum, term := precise(), precise().Set(first)
	for k := int64(0); k < 100; k++ {
		sum.Add(sum, precise().Quo(term, precise().SetInt64(divisor(k))))
		term = next(term, k)
	}
	return sum
}

func TestArctangentBounds(t *testing.T) {
	full, _ := precise().SetString(circle)
	for digits := 1; digits <= 60; digits++ {
		units := whole.Power(10, digits)
		for _, n := range []int{5, 239} {
			square := precise().SetInt64(int64(-n * n))
			first := precise().Quo(precise().SetInt64(1), precise().SetInt64(int64(n)))
			value := series(first,
				func(term *big.Float, _ int64) *big.Float { return precise().Quo(term, square) },
				func(k int64) int64 { return 2*k + 1 })
			checkBounds(t, "arctangent", arctangent(n, units), value, digits, int64(4+2*digits))
		}
		checkBounds(t, "full angle", fullAngle(units), full, digits, int64(200+64*digits))
	}
}

func TestCosineBounds(t *testing.T) {
	random := rand.New(rand.NewSource(81))
	full, _ := precise().SetString(circle)
	for i := range 1000 {
		digits := 2 + i%50
		below := 5 + random.Intn(1000)
		above := 1 + random.Intn((below-1)/4)
		angle := precise().Mul(full, precise().SetRat(big.NewRat(int64(above), int64(below))))
		value := series(precise().SetInt64(1),
			func(term *big.Float, k int64) *big.Float {
				term.Mul(term, angle).Mul(term, angle)
				return term.Quo(term, precise().SetInt64(-(2*k+1)*(2*k+2)))
			},
			func(int64) int64 { return 1 })
		checkBounds(t, "cosine", cosineBounds(exact.Of(above, below), digits), value, digits, int64(300+100*digits))
	}
}
