package linear

import (
	"math/bits"
	"slices"

	"lenslet/whole"
)

// The prime 2^61 - 1, modulo which 2^61 is 1. A remainder is from 0 to the prime less 1.
const (
	primeBits = 61
	prime     = 1<<primeBits - 1
)

// remainder returns the remainder of an integer.
func remainder(a whole.Int) uint64 {
	_, rest := a.QuoRem(whole.Of(prime))
	n, _ := rest.Int64()
	if n < 0 {
		n += prime
	}
	return uint64(n)
}

// remainders returns the remainders of integers.
func remainders(list []whole.Int) []uint64 {
	all := make([]uint64, len(list))
	for i, a := range list {
		all[i] = remainder(a)
	}
	return all
}

// timesModulo returns the remainder of the product of two remainders.
func timesModulo(a, b uint64) uint64 {
	high, low := bits.Mul64(a, b)
	sum := high<<(64-primeBits) | low>>primeBits
	sum += low & prime
	if sum >= prime {
		return sum - prime
	}
	return sum
}

// minusModulo returns the remainder of the difference of two remainders.
func minusModulo(a, b uint64) uint64 {
	if a < b {
		return a + prime - b
	}
	return a - b
}

// inverseModulo returns the remainder whose product with one that is not 0 has the remainder 1: the
// power to the prime less 2 (Fermat).
func inverseModulo(a uint64) uint64 {
	power, square := uint64(1), a
	for rest := prime - 2; rest > 0; rest /= 2 {
		if rest%2 == 1 {
			power = timesModulo(power, square)
		}
		square = timesModulo(square, square)
	}
	return power
}

// inverse returns the matrix of remainders whose product with as many rows as columns of integers has
// the remainders of the identity, and whether there is one.
func inverse(m [][]whole.Int) ([][]uint64, bool) {
	n := len(m)
	rows := make([][]uint64, n)
	for i, row := range m {
		rows[i] = append(remainders(row), make([]uint64, n)...)
		rows[i][n+i] = 1
	}
	for pivot := range n {
		further := slices.IndexFunc(rows[pivot:], func(row []uint64) bool { return row[pivot] != 0 })
		if further < 0 {
			return nil, false
		}
		rows[pivot], rows[pivot+further] = rows[pivot+further], rows[pivot]
		reduce(rows, pivot)
	}
	for i, row := range rows {
		rows[i] = row[n:]
	}
	return rows, true
}

// reduce makes the column of a pivot, in the row with the same index, a column of the identity.
func reduce(rows [][]uint64, pivot int) {
	base := rows[pivot]
	factor := inverseModulo(base[pivot])
	for j, a := range base {
		base[j] = timesModulo(a, factor)
	}
	for i, row := range rows {
		factor := row[pivot]
		if i == pivot || factor == 0 {
			continue
		}
		for j, a := range base {
			row[j] = minusModulo(row[j], timesModulo(factor, a))
		}
	}
}
