package number_test

import (
	"math"
	"math/big"
	"math/rand"
	"slices"
	"testing"

	"lenslet/api"
	"lenslet/number"
)

// P1.7

// within reports whether a number is a member of a span.
func within(t *testing.T, x *big.Rat, s api.Span) bool {
	t.Helper()
	return value(t, s.Low).Cmp(x) <= 0 && x.Cmp(value(t, s.High)) <= 0
}

// inside reports whether a span is a part of another one.
func inside(t *testing.T, s, other api.Span) bool {
	t.Helper()
	return within(t, value(t, s.Low), other) && within(t, value(t, s.High), other)
}

// meets reports whether two spans have a number in common.
func meets(t *testing.T, a, b api.Span) bool {
	t.Helper()
	return value(t, a.Low).Cmp(value(t, b.High)) <= 0 && value(t, b.Low).Cmp(value(t, a.High)) <= 0
}

// member returns a random member of a span.
func member(t *testing.T, random *rand.Rand, s api.Span) *big.Rat {
	t.Helper()
	low, high := value(t, s.Low), value(t, s.High)
	x := new(big.Rat).Sub(high, low)
	return x.Mul(x, big.NewRat(int64(random.Intn(11)), 10)).Add(x, low)
}

// holds reports a consequence that does not hold.
func holds(t *testing.T, what string, condition bool) {
	t.Helper()
	if !condition {
		t.Errorf("%s: does not hold", what)
	}
}

func TestMembersOfSpans(t *testing.T) {
	random := rand.New(rand.NewSource(71))
	for range 2000 {
		box, other := someBox(random), someBox(random)
		a, b := box.Re, other.Re
		x, y := member(t, random, a), member(t, random, b)
		for what, operation := range operations() {
			if what == "Over" && within(t, new(big.Rat), b) {
				continue
			}
			s, e := operation.spans(a, b)
			holds(t, what, within(t, operation.numbers(new(big.Rat), x, y), spanOf(t, s, e)))
		}
		s, e := number.Square(a)
		holds(t, "Square", within(t, new(big.Rat).Mul(x, x), spanOf(t, s, e)))
		if order, e := number.Compare(a, b); e == api.OK {
			want(t, "Compare", order, x.Cmp(y))
		}
	}
}

func TestMembersOfBoxes(t *testing.T) {
	random := rand.New(rand.NewSource(72))
	for range 1000 {
		a, b := someBox(random), someBox(random)
		x, y := member(t, random, a.Re), member(t, random, a.Im)
		u, v := member(t, random, b.Re), member(t, random, b.Im)
		has := func(what string, b api.Box, re, im *big.Rat) {
			t.Helper()
			holds(t, what, within(t, re, b.Re) && within(t, im, b.Im))
		}
		product := func(x, y *big.Rat) *big.Rat { return new(big.Rat).Mul(x, y) }
		sum, _ := number.AddBox(a, b)
		has("AddBox", sum, new(big.Rat).Add(x, u), new(big.Rat).Add(y, v))
		times, _ := number.MulBox(a, b)
		re := new(big.Rat).Sub(product(x, u), product(y, v))
		im := new(big.Rat).Add(product(x, v), product(y, u))
		has("MulBox", times, re, im)
		conjugate, _ := number.Conjugate(a)
		has("Conjugate", conjugate, x, new(big.Rat).Neg(y))
		norm, _ := number.Norm(a)
		holds(t, "Norm", within(t, new(big.Rat).Add(product(x, x), product(y, y)), norm))
	}
}

func TestNested(t *testing.T) {
	random := rand.New(rand.NewSource(73))
	for range 100 {
		root, turn := rat(new(big.Rat).Abs(small(random))), rat(big.NewRat(random.Int63n(2e6)-1e6, 1+random.Int63n(api.MaxNumber)))
		for what, f := range map[string]func(decimals int) (api.Span, api.Errno){
			"Root of " + string(root): func(decimals int) (api.Span, api.Errno) { return number.Root(root, decimals) },
			"Cos of " + string(turn):  func(decimals int) (api.Span, api.Errno) { return number.Cos(turn, decimals) },
			"Sin of " + string(turn):  func(decimals int) (api.Span, api.Errno) { return number.Sin(turn, decimals) },
		} {
			var before api.Span
			for decimals := 1; decimals <= number.MaxDecimals; decimals++ {
				s, e := f(decimals)
				spanOf(t, s, e)
				holds(t, what, decimals == 1 || inside(t, s, before))
				before = s
			}
		}
		s, _ := number.Root(root, 5)
		squared, _ := number.Square(s)
		holds(t, "square of a root", within(t, value(t, root), squared))
	}
}

func TestTurnBoxes(t *testing.T) {
	random := rand.New(rand.NewSource(74))
	for range 300 {
		x, y := big.NewRat(random.Int63n(2000)-1000, 1+random.Int63n(30000)), big.NewRat(random.Int63n(100)-50, 1+random.Int63n(30))
		decimals := 1 + random.Intn(number.MaxDecimals)
		a, _ := number.Turn(rat(x), decimals)
		b, _ := number.Turn(rat(y), decimals)
		norm, _ := number.Norm(a)
		holds(t, "norm of a turn box", within(t, big.NewRat(1, 1), norm))
		product, _ := number.MulBox(a, b)
		sum, e := number.Turn(rat(new(big.Rat).Add(x, y)), decimals)
		want(t, "Turn", e, api.OK)
		holds(t, "product of turn boxes", meets(t, product.Re, sum.Re) && meets(t, product.Im, sum.Im))
	}
}

func TestFloatsAndOrder(t *testing.T) {
	random := rand.New(rand.NewSource(75))
	list := edgeFloats()
	for range 1000 {
		if f := math.Float32frombits(random.Uint32()); f-f == 0 {
			list = append(list, f)
		}
	}
	for _, f := range list {
		a, _ := number.Exact(f)
		want(t, "Float of Exact", both(number.Float(a)), is(f))
	}
	for range 2000 {
		x, y := ordered(small(random), small(random))
		scale := big.NewRat(1, 1+random.Int63n(1<<40))
		low, _ := number.Float(rat(x.Mul(x, scale)))
		high, _ := number.Float(rat(y.Mul(y, scale)))
		holds(t, "order of floats", low <= high)
	}
}

func TestMatrixConsequences(t *testing.T) {
	random := rand.New(rand.NewSource(76))
	for range 200 {
		k, l, m, n := 1+random.Intn(4), 1+random.Intn(4), 1+random.Intn(4), 1+random.Intn(4)
		a, b, c := rats(matrix(random, k, l, k)), rats(matrix(random, l, m, l)), rats(matrix(random, m, n, m))
		ab, _ := number.Multiply(a, b)
		bc, _ := number.Multiply(b, c)
		left, _ := number.Multiply(ab, c)
		right, _ := number.Multiply(a, bc)
		want(t, "products of three matrices", left, right)
		rank, _ := number.Rank(a)
		basis, _ := number.Kernel(a)
		want(t, "rank and kernel", rank+len(basis), l)
		for _, vector := range basis {
			var column [][]api.Rat
			for _, x := range vector {
				column = append(column, []api.Rat{x})
			}
			want(t, "vector of a kernel", both(number.Multiply(a, column)), is(filled(k, 1, "0")))
		}
	}
}

func TestPermutationsHaveEachElement(t *testing.T) {
	random := rand.New(rand.NewSource(77))
	for n := range api.MaxList + 1 {
		list, e := number.Draw(1+random.Intn(2147483646), n)
		want(t, "Draw", e, api.OK)
		slices.Sort(list)
		want(t, "number of elements", len(list), n)
		for i, element := range list {
			want(t, "element", element, i)
		}
	}
}
