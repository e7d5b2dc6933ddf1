package number_test

import (
	"math/big"
	"math/rand"
	"strings"
	"testing"

	"lenslet/api"
	"lenslet/number"
)

// P1.1

func TestIsName(t *testing.T) {
	for _, s := range []string{"a", "z", "A", "Z", "ann", "a_1", "a__", "B9", strings.Repeat("a", 24), "x0123456789_abcdefghijklm"[:24]} {
		want(t, "IsName "+s, number.IsName(s), true)
	}
	for _, s := range []string{"", "1a", "_a", "a b", "a-", "a.", "é", "aé", "aA\x00", "a\xff", "a\n", " a", "a@", "a[", "a`", "a{", "@", "[", "`", "{", "a/", "a:", strings.Repeat("a", 25), strings.Repeat("a", 5000)} {
		want(t, "IsName "+s, number.IsName(s), false)
	}
}

func TestNamesOfTwoBytes(t *testing.T) {
	const letters = "ABCDEFGHIJKLMNOPQRSTUVWXYZabcdefghijklmnopqrstuvwxyz"
	for i := range 256 {
		b := string([]byte{byte(i)})
		want(t, "IsName of a first byte", number.IsName(b), strings.Contains(letters, b))
		want(t, "IsName of a second byte", number.IsName("a"+b), strings.Contains(letters+"0123456789_", b))
	}
}

// TestCheckShortStrings checks all strings of up to 6 of some bytes: a number is a string that is its own form in lowest terms.
func TestCheckShortStrings(t *testing.T) {
	list := []string{""}
	for range 6 {
		var longer []string
		for _, s := range list {
			for _, b := range "-/0124" {
				longer = append(longer, s+string(b))
			}
		}
		list = longer
		for _, s := range list {
			wanted := api.ErrForm
			if x, ok := new(big.Rat).SetString(s); ok && x.RatString() == s {
				wanted = api.OK
			}
			if e := number.Check(api.Rat(s)); e != wanted {
				t.Errorf("Check of %q: got %d, want %d", s, e, wanted)
			}
		}
	}
}

func TestCheck(t *testing.T) {
	for _, a := range wrong() {
		want(t, "Check of "+string(a), number.Check(a), api.ErrForm)
	}
	threes := api.Rat(strings.Repeat("3", 600))
	for _, row := range []struct {
		a api.Rat
		e api.Errno
	}{
		{nines600, api.OK},
		{"-" + nines600, api.OK},
		{"1/" + nines600, api.OK},
		{nines600 + "/2", api.OK},
		{digits601, api.ErrLarge},
		{"-" + digits601, api.ErrLarge},
		{"1/" + digits601, api.ErrLarge},
		{"0/" + digits601, api.ErrLarge},
		{digits601 + "/2", api.ErrLarge}, // before the common divisor
		{digits601 + "/" + digits601, api.ErrLarge},
		{nines600 + "/" + threes, api.ErrForm}, // only a common divisor
		{nines600 + "/" + nines600, api.ErrForm},
		{"0" + nines600, api.ErrForm}, // before the digits
		{digits601 + "/0", api.ErrForm},
		{digits601 + "/1", api.ErrForm},
		{digits601 + "/02", api.ErrForm},
		{digits601 + "x", api.ErrForm},
		{"-0/" + digits601, api.ErrForm},
		{api.Rat(strings.Repeat("7", 100000)), api.ErrLarge},
		{api.Rat(strings.Repeat("7", 100000)) + "/", api.ErrForm},
	} {
		want(t, "Check", number.Check(row.a), row.e)
	}
}

func TestOf(t *testing.T) {
	const least, greatest = -1 << 63, 1<<63 - 1
	for _, row := range []struct {
		num, den int
		r        result[api.Rat]
	}{
		{15, -6, is[api.Rat]("-5/2")},
		{-15, -6, is[api.Rat]("5/2")},
		{0, -3, is[api.Rat]("0")},
		{4, 2, is[api.Rat]("2")},
		{7, 1, is[api.Rat]("7")},
		{1, 0, fails[api.Rat](api.ErrZero)},
		{0, 0, fails[api.Rat](api.ErrZero)},
		{least, 1, is[api.Rat]("-9223372036854775808")},
		{least, -1, is[api.Rat]("9223372036854775808")},
		{1, least, is[api.Rat]("-1/9223372036854775808")},
		{least, least, is[api.Rat]("1")},
		{greatest, least, is[api.Rat]("-9223372036854775807/9223372036854775808")},
	} {
		want(t, "Of", both(number.Of(row.num, row.den)), row.r)
	}
}

func TestArithmetic(t *testing.T) {
	random := rand.New(rand.NewSource(11))
	for range 5000 {
		x, y := some(random), some(random)
		a, b := limited(x), limited(y)
		if a.Error != api.OK || b.Error != api.OK {
			continue
		}
		what := string(a.Value) + " and " + string(b.Value)
		want(t, "Add of "+what, both(number.Add(a.Value, b.Value)), limited(new(big.Rat).Add(x, y)))
		want(t, "Sub of "+what, both(number.Sub(a.Value, b.Value)), limited(new(big.Rat).Sub(x, y)))
		want(t, "Mul of "+what, both(number.Mul(a.Value, b.Value)), limited(new(big.Rat).Mul(x, y)))
		want(t, "Order of "+what, both(number.Order(a.Value, b.Value)), is(x.Cmp(y)))
		floor := new(big.Int).Div(x.Num(), x.Denom())
		want(t, "Floor of "+what, both(number.Floor(a.Value)), is(api.Rat(floor.String())))
		wanted := fails[api.Rat](api.ErrZero)
		if y.Sign() != 0 {
			wanted = limited(new(big.Rat).Quo(x, y))
		}
		want(t, "Div of "+what, both(number.Div(a.Value, b.Value)), wanted)
	}
}

func TestArithmeticOfExamples(t *testing.T) {
	want(t, "Add", both(number.Add("1/10", "1/15")), is[api.Rat]("1/6"))
	want(t, "Add to 0", both(number.Add("1/10", "-1/10")), is[api.Rat]("0"))
	want(t, "Sub", both(number.Sub("1/10", "1/15")), is[api.Rat]("1/30"))
	want(t, "Mul", both(number.Mul("9/4", "-2/3")), is[api.Rat]("-3/2"))
	want(t, "Mul by 0", both(number.Mul("-9/4", "0")), is[api.Rat]("0"))
	want(t, "Div", both(number.Div("9/4", "-3/2")), is[api.Rat]("-3/2"))
	want(t, "Div of 0", both(number.Div("0", "-3/2")), is[api.Rat]("0"))
	for a, floor := range map[api.Rat]api.Rat{"-5/2": "-3", "5/2": "2", "-1/2": "-1", "1/2": "0", "0": "0", "-3": "-3", "7": "7", "-" + nines600: "-" + nines600} {
		want(t, "Floor of "+string(a), both(number.Floor(a)), is(floor))
	}
	want(t, "Order", both(number.Order("-1/2", "-1/3")), is(-1))
	want(t, "Order of 10 and 9", both(number.Order("10", "9")), is(1))
	want(t, "Order of equal numbers", both(number.Order("1/3", "1/3")), is(0))
}

func TestArithmeticAtTheLimit(t *testing.T) {
	large := fails[api.Rat](api.ErrLarge)
	want(t, "Add above the limit", both(number.Add(nines600, "1")), large)
	want(t, "Add below the limit", both(number.Add("-"+nines600, "-1")), large)
	want(t, "Add within the limit", both(number.Add(nines600, "-1")), is(nines600[:599]+"8"))
	want(t, "Add that cancels", both(number.Add(nines600, "-"+nines600)), is[api.Rat]("0"))
	want(t, "Sub above the limit", both(number.Sub("-1", nines600)), large)
	want(t, "Mul above the limit", both(number.Mul(nines600, "2")), large)
	want(t, "Mul with too great a denominator", both(number.Mul("1/"+nines600, "1/2")), large)
	want(t, "Mul that cancels", both(number.Mul(nines600, "1/"+nines600)), is[api.Rat]("1"))
	want(t, "Div above the limit", both(number.Div(nines600, "1/2")), large)
	want(t, "Div that cancels", both(number.Div("1/"+nines600, "1/"+nines600)), is[api.Rat]("1"))
	want(t, "Order of the greatest numbers", both(number.Order("1/"+nines600, "1/"+nines600[:599]+"8")), is(-1))
	want(t, "Order of a greater denominator", both(number.Order("-1/"+nines600, "-1/"+nines600[:599])), is(1))
}

func TestArithmeticOfWrongNumbers(t *testing.T) {
	for what, f := range map[string]func(a, b api.Rat) (api.Rat, api.Errno){"Add": number.Add, "Sub": number.Sub, "Mul": number.Mul, "Div": number.Div} {
		want(t, what+" of a wrong first number", both(f("x", digits601)), fails[api.Rat](api.ErrForm))
		want(t, what+" of a large first number", both(f(digits601, "x")), fails[api.Rat](api.ErrLarge))
		want(t, what+" of a wrong second number", both(f("1", "x")), fails[api.Rat](api.ErrForm))
		want(t, what+" of a large second number", both(f("1", digits601)), fails[api.Rat](api.ErrLarge))
	}
	want(t, "Div of a wrong number by 0", both(number.Div("2/4", "0")), fails[api.Rat](api.ErrForm))
	want(t, "Div by 0", both(number.Div("0", "0")), fails[api.Rat](api.ErrZero))
	want(t, "Order of a wrong first number", both(number.Order("x", digits601)), fails[int](api.ErrForm))
	want(t, "Order of a wrong second number", both(number.Order("2", digits601)), fails[int](api.ErrLarge))
	want(t, "Floor of a wrong number", both(number.Floor("4/2")), fails[api.Rat](api.ErrForm))
	want(t, "Floor of a large number", both(number.Floor("1/"+digits601)), fails[api.Rat](api.ErrLarge))
}
