package linear

import (
	"slices"

	"lenslet/exact"
	"lenslet/whole"
)

// Candidate returns the only list of numbers with at most so many digits, above and below, that may be
// the beginning of the solution of equations, as many as there are unknowns, which have one solution.
// It returns false if there is none. The caller has to prove that it is the beginning.
//
// The solution is found modulo a power of a prime, digit by digit (Dixon), and the numbers are found from
// their remainders. So all numbers on the way are about as long as those of the equations and of the
// result, whereas those of an elimination become as long as all numbers of the matrix together.
func Candidate(m [][]exact.Number, right []exact.Number, n, digits int) ([]exact.Number, bool) {
	rows, sides := withoutAnyFractions(m, right)
	factors, regular := inverse(rows)
	if !regular { // modulo this prime
		solution, single := Solve(m, right)
		return solution[:min(n, len(solution))], single
	}
	limit := whole.Power(10, digits).Sub(whole.Of(1))
	// Where the solution has longer numbers, hardly any remainder for such a modulus belongs to short ones.
	bound := limit.Mul(limit).Mul(whole.Of(prime))
	solution, modulus := lifted(rows, sides, factors, bound)
	candidate := make([]exact.Number, n)
	for j := range candidate {
		x, short := fraction(solution[j], modulus, limit)
		if !short {
			return nil, false
		}
		candidate[j] = x
	}
	return candidate, true
}

// withoutAnyFractions returns equations with integers that have the same solutions.
func withoutAnyFractions(m [][]exact.Number, right []exact.Number) ([][]whole.Int, []whole.Int) {
	rows, sides := make([][]whole.Int, len(m)), make([]whole.Int, len(m))
	for i, row := range m {
		joined, _ := withoutFractions(append(slices.Clone(row), right[i]))
		rows[i], sides[i] = joined[:len(row)], joined[len(row)]
	}
	return rows, sides
}

// lifted returns the remainders of the solution of equations modulo a power of the prime that is above
// a bound, and this power. It needs the inverse of the matrix modulo the prime.
func lifted(rows [][]whole.Int, sides []whole.Int, factors [][]uint64, bound whole.Int) ([]whole.Int, whole.Int) {
	solution := make([]whole.Int, len(rows))
	left := slices.Clone(sides)
	power := whole.Of(1)
	for power.Compare(bound) <= 0 {
		digits := applyModulo(factors, remainders(left))
		for j, digit := range digits {
			solution[j] = solution[j].Add(digit.Mul(power))
		}
		for i, row := range rows {
			left[i] = left[i].Sub(integerProduct(row, digits)).Quo(whole.Of(prime))
		}
		power = power.Mul(whole.Of(prime))
	}
	return solution, power
}

// applyModulo returns the remainders of the product of a matrix and a list of remainders.
func applyModulo(m [][]uint64, list []uint64) []whole.Int {
	product := make([]whole.Int, len(m))
	for i, row := range m {
		var sum uint64
		for j, a := range row {
			sum = (sum + timesModulo(a, list[j])) % prime
		}
		product[i] = whole.Of(int(sum))
	}
	return product
}

// fraction returns the only number with an integer above and one below up to a limit that has a remainder,
// and whether there may be one. The modulus has to be above twice the square of the limit.
func fraction(remainder, modulus, limit whole.Int) (exact.Number, bool) {
	// The remainders of Euclid's algorithm are multiples of the first one, by the integers below.
	before, above := modulus, remainder
	var belowBefore whole.Int
	below := whole.Of(1)
	for above.Compare(limit) > 0 {
		quotient, rest := before.QuoRem(above)
		before, above = above, rest
		belowBefore, below = below, belowBefore.Sub(quotient.Mul(below))
	}
	return exact.New(above, below), below.Abs().Compare(limit) <= 0
}
