package number_test

import (
	"math/big"
	"math/rand"
	"reflect"
	"strings"
	"testing"

	"lenslet/api"
)

var (
	nines600  = api.Rat(strings.Repeat("9", api.MaxDigits))
	digits601 = api.Rat("1" + strings.Repeat("0", api.MaxDigits))
)

// want reports results that differ from the expected ones.
func want(t *testing.T, what string, got, wanted any) {
	t.Helper()
	if !alike(reflect.ValueOf(got), reflect.ValueOf(wanted)) {
		t.Errorf("%s: got %v, want %v", what, got, wanted)
	}
}

// alike reports whether two values are equal; empty slices, also those of results, are equal to nil ones.
func alike(a, b reflect.Value) bool {
	switch {
	case a.Type() != b.Type():
		return false
	case a.Kind() == reflect.Slice && a.Len() == 0 && b.Len() == 0:
		return true
	case a.Kind() == reflect.Struct:
		for i := range a.NumField() {
			if !alike(a.Field(i), b.Field(i)) {
				return false
			}
		}
		return true
	}
	return reflect.DeepEqual(a.Interface(), b.Interface())
}

// result is a result with its error.
type result[T any] struct {
	Value T
	Error api.Errno
}

// both joins a result with its error.
func both[T any](value T, e api.Errno) result[T] { return result[T]{value, e} }

// fails is the result of a function that returns an error: the zero value beside it.
func fails[T any](e api.Errno) result[T] { return result[T]{Error: e} }

// is is the result of a function that returns no error.
func is[T any](value T) result[T] { return result[T]{value, api.OK} }

// span returns a span.
func span(low, high api.Rat) api.Span { return api.Span{Low: low, High: high} }

// point returns the span of a single number.
func point(a api.Rat) api.Span { return api.Span{Low: a, High: a} }

// one returns the box of a single complex number.
func one(re, im api.Rat) api.Box { return api.Box{Re: point(re), Im: point(im)} }

// rat returns the string of a number.
func rat(x *big.Rat) api.Rat { return api.Rat(x.RatString()) }

// value returns the number of a string.
func value(t *testing.T, a api.Rat) *big.Rat {
	t.Helper()
	x, ok := new(big.Rat).SetString(string(a))
	if !ok {
		t.Fatalf("%q is not a number", a)
	}
	return x
}

// limited is the result for a number, or ErrLarge if it has too many digits.
func limited(x *big.Rat) result[api.Rat] {
	if len(new(big.Int).Abs(x.Num()).String()) > api.MaxDigits || len(x.Denom().String()) > api.MaxDigits {
		return fails[api.Rat](api.ErrLarge)
	}
	return is(rat(x))
}

// limitedSpan is the result for a span, or ErrLarge.
func limitedSpan(low, high *big.Rat) result[api.Span] {
	l, h := limited(low), limited(high)
	if l.Error != api.OK || h.Error != api.OK {
		return fails[api.Span](api.ErrLarge)
	}
	return is(span(l.Value, h.Value))
}

// some returns a number: mostly a small one, so that common divisors and equal numbers are
// frequent, sometimes one with hundreds of digits.
func some(random *rand.Rand) *big.Rat {
	part := func() *big.Int {
		bits := [...]uint{1, 2, 4, 4, 8, 8, 64, 200, 1500, 1990}[random.Intn(10)]
		return new(big.Int).Rand(random, new(big.Int).Lsh(big.NewInt(1), bits))
	}
	above, below := part(), big.NewInt(1)
	if random.Intn(3) > 0 {
		below.Add(below, part())
	}
	if random.Intn(2) == 0 {
		above.Neg(above)
	}
	return new(big.Rat).SetFrac(above, below)
}

// small returns a number with few digits.
func small(random *rand.Rand) *big.Rat {
	return big.NewRat(int64(random.Intn(41)-20), int64(1+random.Intn(6)))
}

// ordered returns the lesser and the greater one of two numbers.
func ordered(x, y *big.Rat) (*big.Rat, *big.Rat) {
	if x.Cmp(y) > 0 {
		return y, x
	}
	return x, y
}

// wrong are strings that are not numbers.
func wrong() []api.Rat {
	return []api.Rat{"", "-", "/", "-0", "+1", "00", "01", "-01", " 1", "1 ", "1/", "/2", "1/0", "1/1", "1/-2", "1/02", "1//2", "1/2/3", "2/4", "0/5", "-0/5", "-3/6", "1.5", "1e3", "0x1", "1_0", "x", "٣", "\xff", "1/\x00", "NaN", "--1", "1-", "-/2"}
}
