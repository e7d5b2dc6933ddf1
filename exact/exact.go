// Package exact computes with rational numbers of any size, without the limits of api.Rat. The
// layers compute with it whatever lies between their arguments and their results.
package exact

import (
	"strings"

	"lenslet/api"
	"lenslet/whole"
)

// Number is a rational number in lowest terms; its zero value is 0.
type Number struct {
	above whole.Int
	below whole.Int // at least 1, or 0 in the place of 1
}

// New returns the quotient of two integers; divided by 0 it is 0.
func New(above, below whole.Int) Number {
	if below.Sign() == 0 {
		return Number{}
	}
	if below.Sign() < 0 {
		above, below = above.Neg(), below.Neg()
	}
	common := whole.Divisor(above, below)
	return Number{shortened(above, common), shortened(below, common)}
}

// shortened returns a quotient without a rest.
func shortened(a, divisor whole.Int) whole.Int {
	if divisor.IsOne() {
		return a
	}
	return a.Quo(divisor)
}

// Of returns the quotient of two integers; divided by 0 it is 0.
func Of(above, below int) Number { return New(whole.Of(above), whole.Of(below)) }

// Whole returns an integer as a number.
func Whole(a whole.Int) Number { return Number{above: a} }

// Above returns the numerator.
func (a Number) Above() whole.Int { return a.above }

// Below returns the denominator, which is at least 1.
func (a Number) Below() whole.Int {
	if a.below.Sign() == 0 {
		return whole.Of(1)
	}
	return a.below
}

// Sign returns -1, 0 or 1 for a number below, equal to, or above 0.
func (a Number) Sign() int { return a.above.Sign() }

// Neg returns the negated number.
func (a Number) Neg() Number { return Number{a.above.Neg(), a.below} }

// Abs returns the magnitude.
func (a Number) Abs() Number { return Number{a.above.Abs(), a.below} }

// Add returns the sum.
func (a Number) Add(b Number) Number {
	common := whole.Divisor(a.Below(), b.Below())
	left, right := shortened(a.Below(), common), shortened(b.Below(), common)
	sum := a.above.Mul(right).Add(b.above.Mul(left))
	// Whatever divides both the sum and its denominator divides the common divisor, which is smaller.
	common = whole.Divisor(sum, common)
	return Number{shortened(sum, common), left.Mul(shortened(b.Below(), common))}
}

// Sub returns the difference.
func (a Number) Sub(b Number) Number { return a.Add(b.Neg()) }

// Mul returns the product.
func (a Number) Mul(b Number) Number {
	// Common divisors are found before the products are made, as they are smaller then.
	left, right := whole.Divisor(a.above, b.Below()), whole.Divisor(b.above, a.Below())
	return Number{
		shortened(a.above, left).Mul(shortened(b.above, right)),
		shortened(a.Below(), right).Mul(shortened(b.Below(), left)),
	}
}

// Square returns the product of a number with itself, which has no common divisors to look for.
func (a Number) Square() Number { return Number{a.above.Mul(a.above), a.below.Mul(a.below)} }

// Quo returns the quotient; divided by 0 it is 0.
func (a Number) Quo(b Number) Number {
	switch b.Sign() {
	case 0:
		return Number{}
	case -1:
		return a.Mul(Number{b.Below().Neg(), b.above.Neg()})
	}
	return a.Mul(Number{b.Below(), b.above})
}

// Compare returns -1, 0 or 1.
func (a Number) Compare(b Number) int {
	return a.above.Mul(b.Below()).Compare(b.above.Mul(a.Below()))
}

// Equal reports whether two numbers are the same.
func (a Number) Equal(b Number) bool {
	return a.above.Compare(b.above) == 0 && a.Below().Compare(b.Below()) == 0
}

// Within returns the nearest number that is neither below a least one nor above a greatest one.
func (a Number) Within(least, greatest Number) Number {
	switch {
	case a.Compare(least) < 0:
		return least
	case a.Compare(greatest) > 0:
		return greatest
	}
	return a
}

// Floor returns the greatest integer that is not above a number.
func (a Number) Floor() whole.Int { return a.above.Floor(a.Below()) }

// Common returns the least common denominator of numbers, which is at least 1.
func Common(list []Number) whole.Int {
	common := whole.Of(1)
	for _, x := range list {
		common = common.Mul(x.Below().Quo(whole.Divisor(common, x.Below())))
	}
	return common
}

// Parse returns the number that a string stands for, or the first error of the string.
func Parse(a api.Rat) (Number, api.Errno) {
	top, bottom, fraction := strings.Cut(string(a), "/")
	digits := strings.TrimPrefix(top, "-")
	if !whole.IsDecimal(digits) || top == "-0" {
		return Number{}, api.ErrForm
	}
	if fraction && (!whole.IsDecimal(bottom) || bottom == "0" || bottom == "1") {
		return Number{}, api.ErrForm
	}
	if len(digits) > api.MaxDigits || len(bottom) > api.MaxDigits {
		return Number{}, api.ErrLarge
	}
	above, _ := whole.Parse(top)
	if !fraction {
		return Whole(above), api.OK
	}
	below, _ := whole.Parse(bottom)
	if !whole.Divisor(above, below).IsOne() {
		return Number{}, api.ErrForm
	}
	return Number{above, below}, api.OK
}

// ParseUnsigned returns the number that a string stands for, or its first error: that of Parse, then
// ErrRange for a number below 0.
func ParseUnsigned(a api.Rat) (Number, api.Errno) { return parseSigned(a, 0) }

// ParsePositive returns the number that a string stands for, or its first error: that of Parse, then
// ErrRange for a number that is not above 0.
func ParsePositive(a api.Rat) (Number, api.Errno) { return parseSigned(a, 1) }

// parseSigned returns the number that a string stands for, or its first error: that of Parse, then
// ErrRange for a number whose sign is below a least one.
func parseSigned(a api.Rat, least int) (Number, api.Errno) {
	x, e := Parse(a)
	switch {
	case e != api.OK:
		return Number{}, e
	case x.Sign() < least:
		return Number{}, api.ErrRange
	}
	return x, api.OK
}

// maxBits is the number of binary digits of the greatest integer with api.MaxDigits digits.
const maxBits = 1994

// Rat returns the string of a number, or ErrLarge if its numerator or its denominator has too many digits.
func (a Number) Rat() (api.Rat, api.Errno) {
	above, fits := limited(a.above)
	below, alsoFits := limited(a.Below())
	switch {
	case !fits || !alsoFits:
		return "", api.ErrLarge
	case below == "1":
		return api.Rat(above), api.OK
	}
	return api.Rat(above + "/" + below), api.OK
}

// limited returns the string of an integer, and whether it has at most api.MaxDigits digits.
func limited(a whole.Int) (string, bool) {
	if a.BitLen() > maxBits { // then the string, which is slow to make, is not needed
		return "", false
	}
	text := a.Text()
	return text, len(strings.TrimPrefix(text, "-")) <= api.MaxDigits
}
