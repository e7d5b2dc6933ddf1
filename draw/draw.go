// Package draw has the generator of the numbers by which layers draw something with a key.
package draw

// The generator: each number is the one before times the factor, modulo the modulus.
const (
	factor  = 39373
	modulus = 2147483647
)

// MaxKey is the greatest key; the least one is 1.
const MaxKey = modulus - 1

// Next returns the number that follows a key, or another number.
func Next(x int) int { return int(factor * int64(x) % modulus) }
