package whole

import (
	"slices"
	"strconv"
	"strings"
)

// A chunk is a limb of as many decimal digits as fit into one.
const (
	chunkDigits = 19
	chunk       = 10_000_000_000_000_000_000
)

// IsDecimal reports whether a string has decimal digits alone, at least one, and no leading zeros.
func IsDecimal(s string) bool {
	if s == "" || s[0] == '0' && len(s) > 1 {
		return false
	}
	for i := range len(s) {
		if s[i] < '0' || s[i] > '9' {
			return false
		}
	}
	return true
}

// Parse returns the integer with a decimal string, and whether the string is one: digits without
// leading zeros, with a minus sign if the integer is negative.
func Parse(s string) (Int, bool) {
	digits, negative := strings.CutPrefix(s, "-")
	if !IsDecimal(digits) || s == "-0" {
		return Int{}, false
	}
	var limbs []uint64
	for start := 0; start < len(digits); {
		end := start + chunkDigits
		if start == 0 { // the first chunk has those digits that the others leave
			end = (len(digits)-1)%chunkDigits + 1
		}
		var value uint64
		for i := start; i < end; i++ {
			value = 10*value + uint64(digits[i]-'0')
		}
		limbs = multiplyAdd(limbs, chunk, value)
		start = end
	}
	return signed(negative, limbs), true
}

// Text returns the decimal string of an integer.
func (a Int) Text() string {
	if len(a.limbs) == 0 {
		return "0"
	}
	var parts []string
	for rest := a.limbs; len(rest) > 0; {
		var value uint64
		rest, value = divideSmall(rest, chunk)
		part := strconv.FormatUint(value, 10)
		if len(rest) > 0 {
			part = strings.Repeat("0", chunkDigits-len(part)) + part
		}
		parts = append(parts, part)
	}
	if a.negative {
		parts = append(parts, "-")
	}
	slices.Reverse(parts)
	return strings.Join(parts, "")
}
