package linear

import (
	"math/big"
	"math/rand"
	"strings"
	"testing"

	"lenslet/api"
	"lenslet/exact"
	"lenslet/whole"
)

// bigPrime is the prime of the remainders.
func bigPrime() *big.Int {
	return new(big.Int).Sub(new(big.Int).Lsh(big.NewInt(1), 61), big.NewInt(1))
}

// someRemainders returns remainders, also the least and the greatest ones.
func someRemainders(random *rand.Rand) []uint64 {
	all := []uint64{0, 1, 2, 7, 1 << 60, prime - 2, prime - 1}
	for range 50 {
		all = append(all, random.Uint64()%prime)
	}
	return all
}

func TestRemainders(t *testing.T) {
	modulus := bigPrime()
	if !modulus.IsUint64() || modulus.Uint64() != prime || !modulus.ProbablyPrime(20) {
		t.Fatalf("the prime is %d", uint64(prime))
	}
	all := someRemainders(rand.New(rand.NewSource(11)))
	for _, a := range all {
		x := new(big.Int).SetUint64(a)
		for _, b := range all {
			y := new(big.Int).SetUint64(b)
			product := new(big.Int).Mul(x, y)
			if got := timesModulo(a, b); got != product.Mod(product, modulus).Uint64() {
				t.Errorf("timesModulo of %d and %d: %d", a, b, got)
			}
			difference := new(big.Int).Sub(x, y)
			if got := minusModulo(a, b); got != difference.Mod(difference, modulus).Uint64() {
				t.Errorf("minusModulo of %d and %d: %d", a, b, got)
			}
		}
		if a > 0 && timesModulo(a, inverseModulo(a)) != 1 {
			t.Errorf("inverseModulo of %d: %d", a, inverseModulo(a))
		}
		large := whole.Of(int(a)).Add(whole.Power(10, 300).Mul(whole.Of(prime)))
		if got := remainder(large); got != a {
			t.Errorf("remainder: got %d, want %d", got, a)
		}
		if got := remainder(large.Neg()); got != (prime-a)%prime {
			t.Errorf("remainder of a negative integer: got %d for %d", got, a)
		}
	}
}

func TestInverse(t *testing.T) {
	random := rand.New(rand.NewSource(12))
	singular := 0
	for range 200 {
		n := 1 + random.Intn(6)
		m := matrix(random, n, n, random.Intn(n+1))
		rows, _ := withoutAnyFractions(m, make([]exact.Number, n))
		factors, regular := inverse(rows)
		if regular != (Reduced(m).Rank() == n) {
			t.Fatalf("inverse of %v: %v", m, regular)
		}
		if !regular {
			singular++
			continue
		}
		for j, column := range Columns(rows) {
			for i, x := range applyModulo(factors, remainders(column)) {
				if unit := i == j; x.IsOne() != unit || !unit && x.Sign() != 0 {
					t.Fatalf("the inverse of %v is wrong at %d, %d", m, i, j)
				}
			}
		}
	}
	if singular < 50 || singular > 150 {
		t.Errorf("%d of 200 matrices are singular", singular)
	}
}

func TestCandidate(t *testing.T) {
	random := rand.New(rand.NewSource(13))
	short := 0
	for range 300 {
		n := 1 + random.Intn(7)
		m, right := matrix(random, n, n, n), list(random, n)
		solution, single := Solve(m, right)
		if !single {
			continue
		}
		count, digits := random.Intn(n+1), 1+random.Intn(6)
		limit, fits := whole.Power(10, digits), true
		for _, x := range solution[:count] {
			fits = fits && x.Above().Abs().Compare(limit) < 0 && x.Below().Compare(limit) < 0
		}
		candidate, found := Candidate(m, right, count, digits)
		if found != fits || found && !equal(candidate, solution[:count]) {
			t.Errorf("%d numbers with %d digits of %v: %v, %v", count, digits, solution, candidate, found)
		}
		if fits {
			short++
		}
	}
	if short < 50 || short > 250 {
		t.Errorf("%d of 300 solutions are short", short)
	}
}

// TestCandidatesOfLongEquations has a solution that is short, between numbers that are not.
func TestCandidatesOfLongEquations(t *testing.T) {
	random := rand.New(rand.NewSource(14))
	long := func() exact.Number {
		x, e := exact.Parse(api.Rat("1" + strings.Repeat("7", random.Intn(500))))
		if e != api.OK {
			t.Fatal(e)
		}
		return x.Quo(exact.Of(1+random.Intn(1000), 1))
	}
	for range 20 {
		m, solution := make([][]exact.Number, 8), list(random, 8)
		for i := range m {
			for range 8 {
				m[i] = append(m[i], long())
			}
		}
		if candidate, found := Candidate(m, Apply(m, solution), 8, 3); !found || !equal(candidate, solution) {
			t.Errorf("got %v, %v, want %v", candidate, found, solution)
		}
		if candidate, found := Candidate(m, list(random, 8), 8, 600); found {
			t.Errorf("got %v, want nothing", candidate)
		}
	}
}

func TestCandidatesAtTheirEnds(t *testing.T) {
	one := []exact.Number{exact.Of(1, 1)}
	for _, row := range []struct {
		factor exact.Number
		digits int
		found  bool
	}{
		{exact.Of(999, 1), 3, true},
		{exact.Of(1000, 1), 3, false},
		{exact.Of(-1, 999), 3, true},
		{exact.Of(-1, 1000), 3, false},
		{exact.Of(prime, 1), 30, true}, // no matrix is its inverse modulo the prime
		{exact.Of(prime, 2), 30, true},
		{exact.Of(1, prime), 30, true},
		{exact.Number{}, 3, false},
	} {
		candidate, found := Candidate([][]exact.Number{{row.factor}}, one, 1, row.digits)
		if found != row.found || found && !equal(candidate, []exact.Number{one[0].Quo(row.factor)}) {
			t.Errorf("the solution for the factor %v: %v, %v", row.factor, candidate, found)
		}
	}
	if candidate, found := Candidate(nil, nil, 0, 3); !found || len(candidate) != 0 {
		t.Errorf("the solution without equations: %v, %v", candidate, found)
	}
}
