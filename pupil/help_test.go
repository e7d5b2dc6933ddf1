package pupil_test

import (
	"math/big"
	"math/rand"
	"reflect"
	"strings"
	"testing"

	"lenslet/api"
	"lenslet/pupil"
)

var (
	nines600  = api.Rat(strings.Repeat("9", api.MaxDigits))
	digits601 = api.Rat("1" + strings.Repeat("0", api.MaxDigits))
)

// want reports results that differ from the expected ones.
func want(t *testing.T, what string, got, wanted any) {
	t.Helper()
	if !alike(reflect.ValueOf(got), reflect.ValueOf(wanted)) {
		t.Errorf("%s: got %v, want %v", what, got, wanted)
	}
}

// alike reports whether two values are equal; empty slices, also those of results, are equal to nil ones.
func alike(a, b reflect.Value) bool {
	switch {
	case a.Type() != b.Type():
		return false
	case a.Kind() == reflect.Slice && a.Len() == 0 && b.Len() == 0:
		return true
	case a.Kind() == reflect.Struct:
		for i := range a.NumField() {
			if !alike(a.Field(i), b.Field(i)) {
				return false
			}
		}
		return true
	}
	return reflect.DeepEqual(a.Interface(), b.Interface())
}

// result is a result with its error.
type result[T any] struct {
	Value T
	Error api.Errno
}

// both joins a result with its error.
func both[T any](value T, e api.Errno) result[T] { return result[T]{value, e} }

// fails is the result of a function that returns an error: the zero value beside it.
func fails[T any](e api.Errno) result[T] { return result[T]{Error: e} }

// is is the result of a function that returns no error.
func is[T any](value T) result[T] { return result[T]{value, api.OK} }

// two are two results with their error.
type two[T, U any] struct {
	First  T
	Second U
	Error  api.Errno
}

// all joins two results with their error.
func all[T, U any](first T, second U, e api.Errno) two[T, U] { return two[T, U]{first, second, e} }

// rat returns the string of a number.
func rat(x *big.Rat) api.Rat { return api.Rat(x.RatString()) }

// rats returns the strings of numbers.
func rats(list []*big.Rat) []api.Rat {
	var strings []api.Rat
	for _, x := range list {
		strings = append(strings, rat(x))
	}
	return strings
}

// value returns the number of a string.
func value(a api.Rat) *big.Rat {
	x, ok := new(big.Rat).SetString(string(a))
	if !ok {
		panic("not a number: " + string(a))
	}
	return x
}

// values returns the numbers of strings.
func values(list []api.Rat) []*big.Rat {
	var numbers []*big.Rat
	for _, a := range list {
		numbers = append(numbers, value(a))
	}
	return numbers
}

// small returns a number with few digits.
func small(random *rand.Rand) *big.Rat {
	return big.NewRat(int64(random.Intn(41)-20), int64(1+random.Intn(6)))
}

// smalls returns numbers with few digits.
func smalls(random *rand.Rand, n int) []*big.Rat {
	var list []*big.Rat
	for range n {
		list = append(list, small(random))
	}
	return list
}

func plus(x, y *big.Rat) *big.Rat  { return new(big.Rat).Add(x, y) }
func minus(x, y *big.Rat) *big.Rat { return new(big.Rat).Sub(x, y) }
func times(x, y *big.Rat) *big.Rat { return new(big.Rat).Mul(x, y) }
func over(x, y *big.Rat) *big.Rat  { return new(big.Rat).Quo(x, y) }
func integer(n int) *big.Rat       { return big.NewRat(int64(n), 1) }

// power returns a number to a power.
func power(x *big.Rat, n int) *big.Rat {
	product := integer(1)
	for range n {
		product.Mul(product, x)
	}
	return product
}

// product returns the inner product of two vectors.
func product(a, b []*big.Rat) *big.Rat {
	sum := new(big.Rat)
	for k, x := range a {
		sum.Add(sum, times(x, b[k]))
	}
	return sum
}

// wrong are strings that are not numbers.
func wrong() []api.Rat {
	return []api.Rat{"", "-", "-0", "+1", "01", " 1", "1/", "/2", "1/0", "1/1", "1/-2", "2/4", "0/5", "1.5", "x", "\xff"}
}

// example is the pupil P of the chapter's examples.
func example() pupil.Pupil { return pupil.Pupil{Size: 4, Outer: "1", Inner: "1/2"} }

// full is a pupil that has all cells of its grid.
func full(size int) pupil.Pupil { return pupil.Pupil{Size: size, Outer: "2", Inner: "0"} }

// none is a pupil without a cell.
func none() pupil.Pupil { return pupil.Pupil{Size: 4, Outer: "1/9", Inner: "1/10"} }

// directions are vanes without a half width; the last ones are at the limit of A, B and H.
func directions() []pupil.Vane {
	return []pupil.Vane{
		{A: 1, B: 0, H: 1}, {A: 0, B: 1, H: 1}, {A: -1, B: 0, H: 1}, {A: 0, B: -2, H: 2}, {A: 3, B: 4, H: 5},
		{A: -3, B: 4, H: 5}, {A: 5, B: -12, H: 13}, {A: -8, B: -15, H: 17}, {A: -20, B: 21, H: 29},
		{A: 10000, B: 0, H: 10000}, {A: 0, B: -10000, H: 10000}, {A: -10000, B: 0, H: 10000}, {A: 0, B: 10000, H: 10000}, {A: 2800, B: 9600, H: 10000}, {A: -6000, B: -8000, H: 10000},
	}
}

// somePupil returns a pupil; radii and half widths are often those at which cells lie on an edge.
func somePupil(random *rand.Rand) pupil.Pupil {
	size := 2 + random.Intn(15)
	lengths := []*big.Rat{big.NewRat(1, 1), big.NewRat(1, 2), big.NewRat(int64(5+random.Intn(20)), int64(size)), big.NewRat(int64(1+random.Intn(30)), 20)}
	outer := lengths[random.Intn(len(lengths))]
	p := pupil.Pupil{Size: size, Outer: rat(outer), Inner: "0"}
	if inner := big.NewRat(int64(random.Intn(6)), int64(size)); inner.Cmp(outer) < 0 {
		p.Inner = rat(inner)
	}
	for range random.Intn(4) {
		v := directions()[random.Intn(len(directions()))]
		v.Half = rat(big.NewRat(int64(1+random.Intn(6)), int64(size*(1+random.Intn(5)))))
		p.Vanes = append(p.Vanes, v)
		if random.Intn(5) == 0 {
			p.Vanes = append(p.Vanes, v)
		}
	}
	return p
}

// poly returns the terms of a polynomial in their order; the numbers that are 0 have none.
func poly(coefficients map[[2]int]*big.Rat) pupil.Poly {
	var f pupil.Poly
	for degree := range 2*pupil.MaxDegree + 1 {
		for j := range degree + 1 {
			if c, found := coefficients[[2]int{degree - j, j}]; found && c.Sign() != 0 {
				f = append(f, pupil.Term{C: rat(c), I: degree - j, J: j})
			}
		}
	}
	return f
}

// coefficients returns the numbers of a polynomial.
func coefficients(f pupil.Poly) map[[2]int]*big.Rat {
	all := map[[2]int]*big.Rat{}
	for _, t := range f {
		all[[2]int{t.I, t.J}] = value(t.C)
	}
	return all
}

// somePoly returns a polynomial of at most a degree.
func somePoly(random *rand.Rand, degree int) pupil.Poly {
	all := map[[2]int]*big.Rat{}
	for range random.Intn(8) {
		i := random.Intn(degree + 1)
		all[[2]int{i, random.Intn(degree - i + 1)}] = small(random)
	}
	return poly(all)
}

// greatest returns a polynomial with all terms of degrees up to MaxDegree.
func greatest(random *rand.Rand) pupil.Poly {
	all := map[[2]int]*big.Rat{}
	for i := range pupil.MaxDegree + 1 {
		for j := range pupil.MaxDegree + 1 - i {
			all[[2]int{i, j}] = big.NewRat(int64(1+random.Intn(30)), int64(1+random.Intn(30)))
		}
	}
	return poly(all)
}

// at returns the value of a polynomial at a place.
func at(f pupil.Poly, x, y *big.Rat) *big.Rat {
	sum := new(big.Rat)
	for _, t := range f {
		sum.Add(sum, times(value(t.C), times(power(x, t.I), power(y, t.J))))
	}
	return sum
}

// wrongPupil is a pupil with its first error.
type wrongPupil struct {
	p pupil.Pupil
	e api.Errno
}

// wrongPupils are pupils of which each has the errors of its place in the order and of later ones.
func wrongPupils() []wrongPupil {
	list := []wrongPupil{
		{pupil.Pupil{}, api.ErrRange},
		{pupil.Pupil{Size: 1, Outer: "x", Inner: "x"}, api.ErrRange},
		{pupil.Pupil{Size: 17, Outer: "x", Inner: "x"}, api.ErrRange},
		{pupil.Pupil{Size: -4, Outer: "1", Inner: "0"}, api.ErrRange},
		{pupil.Pupil{Size: 1 << 62, Outer: "1", Inner: "0"}, api.ErrRange},
		{pupil.Pupil{Size: -1 << 63, Outer: "1", Inner: "0"}, api.ErrRange},
		{pupil.Pupil{Size: 4, Outer: "2/4", Inner: digits601}, api.ErrForm},
		{pupil.Pupil{Size: 4, Outer: digits601, Inner: "x"}, api.ErrLarge},
		{pupil.Pupil{Size: 4, Outer: "0", Inner: "x"}, api.ErrRange},
		{pupil.Pupil{Size: 4, Outer: "-1", Inner: digits601}, api.ErrRange},
		{pupil.Pupil{Size: 4, Outer: "1", Inner: ""}, api.ErrForm},
		{pupil.Pupil{Size: 4, Outer: "1", Inner: digits601, Vanes: make([]pupil.Vane, 9)}, api.ErrLarge},
		{pupil.Pupil{Size: 4, Outer: "1", Inner: "-1/9", Vanes: make([]pupil.Vane, 9)}, api.ErrRange},
		{pupil.Pupil{Size: 4, Outer: "1", Inner: "1", Vanes: make([]pupil.Vane, 9)}, api.ErrRange},
		{pupil.Pupil{Size: 4, Outer: "1/2", Inner: "2/3"}, api.ErrRange},
		{pupil.Pupil{Size: 4, Outer: "1", Inner: "0", Vanes: make([]pupil.Vane, 9)}, api.ErrMany},
	}
	good := pupil.Vane{A: 3, B: -4, H: 5, Half: "1/9"}
	for _, row := range []struct {
		v pupil.Vane
		e api.Errno
	}{
		{pupil.Vane{}, api.ErrRange},
		{pupil.Vane{A: 10001, B: 1, H: 1, Half: "x"}, api.ErrRange},
		{pupil.Vane{A: -10001, B: 0, H: 10001, Half: "1"}, api.ErrRange},
		{pupil.Vane{A: 0, B: 10001, H: 1, Half: "1"}, api.ErrRange},
		{pupil.Vane{A: 0, B: -10001, H: 1, Half: "1"}, api.ErrRange},
		{pupil.Vane{A: 0, B: 0, H: 0, Half: "1"}, api.ErrRange},
		{pupil.Vane{A: 3, B: 4, H: -5, Half: "1"}, api.ErrRange},
		{pupil.Vane{A: 3, B: 4, H: 10001, Half: "1"}, api.ErrRange},
		{pupil.Vane{A: 1 << 32, B: 0, H: 1 << 32, Half: "1"}, api.ErrRange},
		{pupil.Vane{A: -1 << 63, B: 0, H: 1, Half: "1"}, api.ErrRange},
		{pupil.Vane{A: 1, B: 1, H: 1, Half: "x"}, api.ErrRule},
		{pupil.Vane{A: 3, B: 4, H: 6, Half: "0"}, api.ErrRule},
		{pupil.Vane{A: 3, B: 4, H: 5, Half: "1/1"}, api.ErrForm},
		{pupil.Vane{A: 3, B: 4, H: 5, Half: "1/" + digits601}, api.ErrLarge},
		{pupil.Vane{A: 3, B: 4, H: 5, Half: "0"}, api.ErrRange},
		{pupil.Vane{A: 3, B: 4, H: 5, Half: "-1/2"}, api.ErrRange},
	} {
		list = append(list,
			wrongPupil{pupil.Pupil{Size: 4, Outer: "1", Inner: "0", Vanes: []pupil.Vane{row.v}}, row.e},
			wrongPupil{pupil.Pupil{Size: 4, Outer: "1", Inner: "0", Vanes: []pupil.Vane{good, good, row.v, {}, {A: 1, B: 1, H: 1}}}, row.e},
		)
	}
	return list
}

// wrongPoly is a polynomial with its first error.
type wrongPoly struct {
	f pupil.Poly
	e api.Errno
}

// wrongPolys are polynomials of which each has the errors of its place in the order and of later ones.
func wrongPolys() []wrongPoly {
	const far = 1<<63 - 1
	return []wrongPoly{
		{pupil.Poly{{}}, api.ErrForm},
		{pupil.Poly{{"x", -1, 0}}, api.ErrForm},
		{pupil.Poly{{"1", 0, 1}, {"2/4", 0, 0}, {digits601, 0, 0}}, api.ErrForm},
		{pupil.Poly{{digits601, -1, 0}}, api.ErrLarge},
		{pupil.Poly{{"0", 0, 0}}, api.ErrZero},
		{pupil.Poly{{"0", -1, 0}, {"x", 0, 0}}, api.ErrZero},
		{pupil.Poly{{"1", 0, 0}, {"0", 0, 0}}, api.ErrZero},
		{pupil.Poly{{"1", -1, 0}}, api.ErrRange},
		{pupil.Poly{{"1", 0, -1}}, api.ErrRange},
		{pupil.Poly{{"1", 17, -1}}, api.ErrRange},
		{pupil.Poly{{"1", -1, 17}}, api.ErrRange},
		{pupil.Poly{{"1", 17, 0}}, api.ErrRange},
		{pupil.Poly{{"1", 0, 17}}, api.ErrRange},
		{pupil.Poly{{"1", 9, 8}}, api.ErrRange},
		{pupil.Poly{{"1", far, far}}, api.ErrRange},
		{pupil.Poly{{"1", far, 1}}, api.ErrRange},
		{pupil.Poly{{"1", -far - 1, -far - 1}}, api.ErrRange},
		{pupil.Poly{{"1", 1, 0}, {"1", -1, 0}, {"x", 0, 0}}, api.ErrRange},
		{pupil.Poly{{"1", 0, 0}, {"1", 0, 0}}, api.ErrOrder},
		{pupil.Poly{{"1", 1, 0}, {"1", 0, 0}, {"x", 0, 0}}, api.ErrOrder},
		{pupil.Poly{{"1", 0, 1}, {"1", 1, 0}}, api.ErrOrder},
		{pupil.Poly{{"1", 1, 1}, {"1", 2, 0}, {"0", 2, 0}}, api.ErrOrder},
		{pupil.Poly{{"1", 1, 0}, {"1", 0, 1}, {"1", 1, 1}, {"1", 1, 1}}, api.ErrOrder},
	}
}

// wrongVector is a vector with its first error.
type wrongVector struct {
	v []api.Rat
	e api.Errno
}

// wrongVectors are vectors with an error.
func wrongVectors() []wrongVector {
	list := []wrongVector{
		{[]api.Rat{"1", "x", digits601}, api.ErrForm},
		{[]api.Rat{"1", "-" + digits601, "x"}, api.ErrLarge},
		{repeated("1", 257), api.ErrMany},
		{repeated("x", 257), api.ErrMany},
	}
	for _, a := range wrong() {
		list = append(list, wrongVector{[]api.Rat{a}, api.ErrForm})
	}
	return list
}

// repeated returns a vector with the same number n times.
func repeated(a api.Rat, n int) []api.Rat {
	list := make([]api.Rat, n)
	for k := range list {
		list[k] = a
	}
	return list
}

// limited returns a result with the numbers, or ErrLarge if one has too many digits.
func limited(list []*big.Rat) result[[]api.Rat] {
	for _, x := range list {
		if len(new(big.Int).Abs(x.Num()).String()) > api.MaxDigits || len(x.Denom().String()) > api.MaxDigits {
			return fails[[]api.Rat](api.ErrLarge)
		}
	}
	return is(rats(list))
}
