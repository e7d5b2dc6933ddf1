package whole

import (
	"math/big"
	"math/rand"
	"strings"
	"testing"
)

// samples returns integers of all sizes, many with limbs that consist of equal bits.
func samples(random *rand.Rand, count int) []*big.Int {
	list := []*big.Int{big.NewInt(0), big.NewInt(1), big.NewInt(-1)}
	for len(list) < count {
		x := new(big.Int)
		for range 1 + random.Intn(8) {
			limb := [...]uint64{0, 1, 1 << 63, 1<<64 - 1, random.Uint64(), random.Uint64()}[random.Intn(6)]
			x.Lsh(x, 64).Or(x, new(big.Int).SetUint64(limb))
		}
		x.Rsh(x, uint(random.Intn(64)))
		if random.Intn(2) == 0 {
			x.Neg(x)
		}
		list = append(list, x)
	}
	return list
}

// from returns an integer of this package.
func from(t *testing.T, x *big.Int) Int {
	t.Helper()
	a, ok := Parse(x.String())
	if !ok {
		t.Fatalf("Parse of %v", x)
	}
	return a
}

// same reports an integer that is not the expected one, or not in its one form.
func same(t *testing.T, what string, got Int, wanted *big.Int) {
	t.Helper()
	n := len(got.limbs)
	if got.Text() != wanted.String() || got.negative && n == 0 || n > 0 && got.limbs[n-1] == 0 {
		t.Fatalf("%s: got %s, want %s", what, got.Text(), wanted)
	}
}

func TestArithmetic(t *testing.T) {
	random := rand.New(rand.NewSource(1))
	list := samples(random, 300)
	for range 30000 {
		x, y := list[random.Intn(len(list))], list[random.Intn(len(list))]
		a, b := from(t, x), from(t, y)
		same(t, "Add", a.Add(b), new(big.Int).Add(x, y))
		same(t, "Sub", a.Sub(b), new(big.Int).Sub(x, y))
		same(t, "Mul", a.Mul(b), new(big.Int).Mul(x, y))
		same(t, "Divisor", Divisor(a, b), new(big.Int).GCD(nil, nil, new(big.Int).Abs(x), new(big.Int).Abs(y)))
		if got, wanted := a.Compare(b), x.Cmp(y); got != wanted {
			t.Fatalf("Compare of %v and %v: got %d, want %d", x, y, got, wanted)
		}
		if y.Sign() == 0 {
			continue
		}
		quotient, rest := new(big.Int).QuoRem(x, y, new(big.Int))
		gotQuotient, gotRest := a.QuoRem(b)
		same(t, "quotient", gotQuotient, quotient)
		same(t, "rest", gotRest, rest)
		floor, modulus := new(big.Int).DivMod(x, y, new(big.Int))
		if y.Sign() < 0 && modulus.Sign() != 0 {
			floor.Sub(floor, big.NewInt(1))
		}
		same(t, "Floor", a.Floor(b), floor)
	}
}

// TestDivideProducts divides products and their neighbours, for which the guesses of digits are worst.
func TestDivideProducts(t *testing.T) {
	random := rand.New(rand.NewSource(2))
	list := samples(random, 300)
	for range 30000 {
		x, y := list[random.Intn(len(list))], list[random.Intn(len(list))]
		if y.Sign() == 0 {
			continue
		}
		z := new(big.Int).Mul(x, y)
		z.Add(z, big.NewInt(int64(random.Intn(3)-1)))
		quotient, rest := new(big.Int).QuoRem(z, y, new(big.Int))
		gotQuotient, gotRest := from(t, z).QuoRem(from(t, y))
		same(t, "quotient", gotQuotient, quotient)
		same(t, "rest", gotRest, rest)
	}
}

func TestDivisorOfLongIntegers(t *testing.T) {
	random := rand.New(rand.NewSource(3))
	for range 300 {
		x := new(big.Int).Rand(random, new(big.Int).Lsh(big.NewInt(1), uint(1+random.Intn(3000))))
		y := new(big.Int).Rand(random, new(big.Int).Lsh(big.NewInt(1), uint(1+random.Intn(3000))))
		z := new(big.Int).Rand(random, new(big.Int).Lsh(big.NewInt(1), uint(1+random.Intn(500))))
		x.Mul(x, z)
		y.Mul(y, z)
		same(t, "Divisor", Divisor(from(t, x), from(t, y)), new(big.Int).GCD(nil, nil, x, y))
	}
	// Neighbours in Fibonacci's sequence take the most steps.
	x, y := big.NewInt(0), big.NewInt(1)
	for range 2000 {
		x, y = y, new(big.Int).Add(x, y)
	}
	same(t, "Divisor", Divisor(from(t, x), from(t, y)), big.NewInt(1))
}

func TestUnary(t *testing.T) {
	random := rand.New(rand.NewSource(4))
	for _, x := range samples(random, 2000) {
		a := from(t, x)
		same(t, "Neg", a.Neg(), new(big.Int).Neg(x))
		same(t, "Abs", a.Abs(), new(big.Int).Abs(x))
		count := random.Intn(200)
		same(t, "Shifted", a.Shifted(count), new(big.Int).Lsh(x, uint(count)))
		same(t, "Shifted by a negative count", a.Shifted(-count), x)
		if a.Sign() != x.Sign() || a.BitLen() != x.BitLen() || a.IsOdd() != (x.Bit(0) == 1) || a.IsOne() != (x.String() == "1") {
			t.Errorf("Sign, BitLen, IsOdd or IsOne of %v", x)
		}
		checkInt64(t, a, x)
		if x.Sign() < 0 {
			same(t, "Root", a.Root(), new(big.Int))
			continue
		}
		same(t, "Root", a.Root(), new(big.Int).Sqrt(x))
		square := new(big.Int).Mul(x, x)
		same(t, "Root of a square", from(t, square).Root(), x)
		if x.Sign() > 0 {
			same(t, "Root below a square", from(t, square.Sub(square, big.NewInt(1))).Root(), new(big.Int).Sub(x, big.NewInt(1)))
		}
	}
}

// checkInt64 compares Int64 with the integers of package big.
func checkInt64(t *testing.T, a Int, x *big.Int) {
	t.Helper()
	n, fits := a.Int64()
	wanted := int64(0)
	if new(big.Int).Abs(x).IsInt64() {
		wanted = x.Int64()
	}
	if n != wanted || fits != new(big.Int).Abs(x).IsInt64() {
		t.Errorf("Int64 of %v: got %d, %v", x, n, fits)
	}
}

func TestInt64(t *testing.T) {
	end := new(big.Int).Lsh(big.NewInt(1), 63)
	for difference := int64(-2); difference <= 2; difference++ {
		for _, middle := range []*big.Int{end, new(big.Int).Neg(end), new(big.Int).Add(end, end), new(big.Int)} {
			x := new(big.Int).Add(middle, big.NewInt(difference))
			checkInt64(t, from(t, x), x)
		}
	}
}

func TestOf(t *testing.T) {
	for _, n := range []int{0, 1, -1, 7, -7, 1<<63 - 1, -1 << 63} {
		same(t, "Of", Of(n), big.NewInt(int64(n)))
	}
	for _, row := range []struct {
		base, exponent int
		text           string
	}{{10, 0, "1"}, {10, 3, "1000"}, {-3, 3, "-27"}, {0, 0, "1"}, {0, 5, "0"}, {2, 64, "18446744073709551616"}, {5, -1, "1"}} {
		if got := Power(row.base, row.exponent).Text(); got != row.text {
			t.Errorf("Power of %d to %d: got %s, want %s", row.base, row.exponent, got, row.text)
		}
	}
}

func TestDivisionBy0(t *testing.T) {
	quotient, rest := Of(-5).QuoRem(Int{})
	same(t, "quotient", quotient, new(big.Int))
	same(t, "rest", rest, big.NewInt(-5))
	same(t, "Floor", Of(-5).Floor(Int{}), new(big.Int))
}

func TestText(t *testing.T) {
	for n := range 80 {
		for _, s := range []string{"1" + strings.Repeat("0", n), strings.Repeat("9", n+1), "-1" + strings.Repeat("0", n) + "7"} {
			a, ok := Parse(s)
			if !ok || a.Text() != s {
				t.Errorf("Parse and Text of %s: got %s, %v", s, a.Text(), ok)
			}
		}
	}
	for _, s := range []string{"", "-", "-0", "00", "01", "-01", "+1", "1 ", " 1", "1a", "--1", "1-", "0x1", "1_0", "٣"} {
		if a, ok := Parse(s); ok || a.Sign() != 0 {
			t.Errorf("Parse of %q: got %s, %v", s, a.Text(), ok)
		}
	}
}
