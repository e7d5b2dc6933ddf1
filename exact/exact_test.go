package exact

import (
	"math/big"
	"math/rand"
	"strings"
	"testing"

	"lenslet/api"
	"lenslet/whole"
)

// some returns a rational number, often with small parts, so that common divisors are frequent.
func some(random *rand.Rand) *big.Rat {
	part := func() *big.Int {
		limit := new(big.Int).Lsh(big.NewInt(1), uint([...]int{1, 3, 6, 40, 64, 200}[random.Intn(6)]))
		return new(big.Int).Rand(random, limit)
	}
	above, below := part(), part()
	if random.Intn(2) == 0 {
		above.Neg(above)
	}
	return new(big.Rat).SetFrac(above, below.Add(below, big.NewInt(1)))
}

// from returns a number of this package.
func from(t *testing.T, x *big.Rat) Number {
	t.Helper()
	a, e := Parse(api.Rat(x.RatString()))
	if e != api.OK {
		t.Fatalf("Parse of %s: %d", x.RatString(), e)
	}
	return a
}

// same reports a number that is not the expected one.
func same(t *testing.T, what string, got Number, wanted *big.Rat) {
	t.Helper()
	if s, e := got.Rat(); e != api.OK || string(s) != wanted.RatString() {
		t.Fatalf("%s: got %s, %d, want %s", what, s, e, wanted.RatString())
	}
}

func TestArithmetic(t *testing.T) {
	random := rand.New(rand.NewSource(1))
	for range 20000 {
		x, y := some(random), some(random)
		a, b := from(t, x), from(t, y)
		same(t, "Add", a.Add(b), new(big.Rat).Add(x, y))
		same(t, "Sub", a.Sub(b), new(big.Rat).Sub(x, y))
		same(t, "Sub of itself", a.Sub(a), new(big.Rat))
		same(t, "Mul", a.Mul(b), new(big.Rat).Mul(x, y))
		same(t, "Square", a.Square(), new(big.Rat).Mul(x, x))
		same(t, "Neg", a.Neg(), new(big.Rat).Neg(x))
		same(t, "Abs", a.Abs(), new(big.Rat).Abs(x))
		if y.Sign() != 0 {
			same(t, "Quo", a.Quo(b), new(big.Rat).Quo(x, y))
		}
		if a.Compare(b) != x.Cmp(y) || a.Compare(a) != 0 || a.Sign() != x.Sign() {
			t.Fatalf("Compare or Sign of %v and %v", x, y)
		}
		if a.Equal(b) != (x.Cmp(y) == 0) || !a.Equal(a.Add(b).Sub(b)) {
			t.Fatalf("Equal of %v and %v", x, y)
		}
		floor := new(big.Int).Div(x.Num(), x.Denom())
		same(t, "Floor", Whole(a.Floor()), new(big.Rat).SetInt(floor))
		if a.Above().Text() != x.Num().String() || a.Below().Text() != x.Denom().String() {
			t.Fatalf("Above or Below of %v", x)
		}
	}
}

func TestWithin(t *testing.T) {
	for n := -3; n <= 3; n++ {
		wanted := max(-1, min(n, 2))
		same(t, "Within", Of(n, 1).Within(Of(-1, 1), Of(2, 1)), big.NewRat(int64(wanted), 1))
		same(t, "Within a single number", Of(n, 1).Within(Of(1, 2), Of(1, 2)), big.NewRat(1, 2))
	}
}

func TestCommon(t *testing.T) {
	for _, row := range []struct {
		list   []Number
		common string
	}{
		{nil, "1"},
		{[]Number{{}, Of(7, 1)}, "1"},
		{[]Number{Of(1, 4), Of(-5, 6), {}, Of(2, 3)}, "12"},
		{[]Number{Of(1, 7), Of(1, 1<<62), Of(3, 1<<62)}, "32281802128991715328"},
	} {
		if got := Common(row.list).Text(); got != row.common {
			t.Errorf("Common of %v: got %s, want %s", row.list, got, row.common)
		}
	}
}

func TestZero(t *testing.T) {
	var zero Number
	one := Of(1, 1)
	for what, got := range map[string]Number{"the zero value": zero, "Add": zero.Add(zero), "Mul": one.Mul(zero), "Quo": zero.Quo(one), "Quo by 0": one.Quo(zero), "Of by 0": Of(3, 0), "New by 0": New(whole.Of(3), whole.Int{}), "Neg": zero.Neg(), "Square": zero.Square()} {
		same(t, what, got, new(big.Rat))
	}
	same(t, "Add", zero.Add(one), big.NewRat(1, 1))
	same(t, "Of", Of(6, -4), big.NewRat(-3, 2))
	if !zero.Equal(Of(0, 5)) || !zero.Equal(one.Sub(one)) || zero.Equal(one) || Of(1, 2).Equal(Of(1, 3)) {
		t.Error("Equal of simple numbers")
	}
	if zero.Compare(one) != -1 || one.Compare(zero) != 1 || zero.Below().Text() != "1" {
		t.Error("Compare or Below of the zero value")
	}
}

func TestDigits(t *testing.T) {
	nines := whole.Power(10, api.MaxDigits).Sub(whole.Of(1))
	for _, row := range []struct {
		a Number
		e api.Errno
	}{
		{Whole(nines), api.OK},
		{Whole(nines.Neg()), api.OK},
		{New(whole.Of(1), nines), api.OK},
		{Whole(nines.Add(whole.Of(1))), api.ErrLarge},
		{Whole(nines.Add(whole.Of(1)).Neg()), api.ErrLarge},
		{New(whole.Of(-1), nines.Add(whole.Of(1))), api.ErrLarge},
		{Whole(whole.Power(10, 5000)), api.ErrLarge},
	} {
		s, e := row.a.Rat()
		if e != row.e || (s == "") != (e != api.OK) {
			t.Errorf("Rat: got %s, %d, want %d", s, e, row.e)
		}
	}
	if got := nines.BitLen(); got != maxBits {
		t.Errorf("maxBits: got %d, want %d", maxBits, got)
	}
	if a, e := Parse(api.Rat(strings.Repeat("9", api.MaxDigits+1))); e != api.ErrLarge || a.Sign() != 0 {
		t.Error("Parse of too many digits")
	}
}

func TestParseSigned(t *testing.T) {
	long := api.Rat(strings.Repeat("9", api.MaxDigits+1))
	for _, row := range []struct {
		a                  api.Rat
		unsigned, positive api.Errno
	}{
		{"7/2", api.OK, api.OK},
		{"0", api.OK, api.ErrRange},
		{"-1/9", api.ErrRange, api.ErrRange},
		{"", api.ErrForm, api.ErrForm},
		{"-" + long, api.ErrLarge, api.ErrLarge},
		{"-2/4", api.ErrForm, api.ErrForm},
	} {
		for _, read := range []struct {
			what   string
			parse  func(api.Rat) (Number, api.Errno)
			wanted api.Errno
		}{{"ParseUnsigned", ParseUnsigned, row.unsigned}, {"ParsePositive", ParsePositive, row.positive}} {
			x, e := read.parse(row.a)
			if s, _ := x.Rat(); e != read.wanted || e == api.OK && s != row.a || e != api.OK && s != "0" {
				t.Errorf("%s of %s: got %s, %d, want %d", read.what, row.a, s, e, read.wanted)
			}
		}
	}
}
