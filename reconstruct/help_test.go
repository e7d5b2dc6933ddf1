package reconstruct_test

import (
	"math/big"
	"math/rand"
	"reflect"
	"slices"
	"strings"
	"testing"

	"lenslet/api"
	"lenslet/reconstruct"
)

const far = 1<<63 - 1

var (
	nines600  = api.Rat(strings.Repeat("9", api.MaxDigits))
	digits601 = api.Rat("1" + strings.Repeat("0", api.MaxDigits))
)

// power10 returns 10 to the power of an exponent.
func power10(exponent int) api.Rat { return api.Rat("1" + strings.Repeat("0", exponent)) }

// want reports results that differ from the expected ones.
func want(t *testing.T, what string, got, wanted any) {
	t.Helper()
	if !alike(reflect.ValueOf(got), reflect.ValueOf(wanted)) {
		t.Errorf("%s: got %v, want %v", what, got, wanted)
	}
}

// alike reports whether two values are equal; empty slices, also those of results, are equal to nil ones.
func alike(a, b reflect.Value) bool {
	switch {
	case a.Type() != b.Type():
		return false
	case a.Kind() == reflect.Slice && a.Len() == b.Len():
		for i := range a.Len() {
			if !alike(a.Index(i), b.Index(i)) {
				return false
			}
		}
		return true
	case a.Kind() == reflect.Struct:
		for i := range a.NumField() {
			if !alike(a.Field(i), b.Field(i)) {
				return false
			}
		}
		return true
	}
	return reflect.DeepEqual(a.Interface(), b.Interface())
}

// result is a result with its error.
type result[T any] struct {
	Value T
	Error api.Errno
}

// both joins a result with its error.
func both[T any](value T, e api.Errno) result[T] { return result[T]{value, e} }

// fails is the result of a function that returns an error: the zero value beside it.
func fails[T any](e api.Errno) result[T] { return result[T]{Error: e} }

// is is the result of a function that returns no error.
func is[T any](value T) result[T] { return result[T]{value, api.OK} }

// parts are the results of Split.
type parts struct{ Seen, Blind []api.Rat }

// splitOf returns what Split returns.
func splitOf(d [][]api.Rat, command []api.Rat) result[parts] {
	seen, blind, e := reconstruct.Split(d, command)
	return both(parts{seen, blind}, e)
}

// list returns the numbers that stand in a string.
func list(s string) []api.Rat {
	var all []api.Rat
	for _, a := range strings.Fields(s) {
		all = append(all, api.Rat(a))
	}
	return all
}

// rows returns the rows that stand in a string, with semicolons between them.
func rows(s string) [][]api.Rat {
	var all [][]api.Rat
	for _, row := range strings.Split(s, ";") {
		all = append(all, list(row))
	}
	return all
}

// filled returns a matrix all of whose numbers are the same.
func filled(count, columns int, a api.Rat) [][]api.Rat {
	all := make([][]api.Rat, count)
	for i := range all {
		all[i] = repeated(a, columns)
	}
	return all
}

// repeated returns a list all of whose numbers are the same.
func repeated(a api.Rat, n int) []api.Rat { return slices.Repeat([]api.Rat{a}, n) }

// numbers is a list of numbers of any size, and matrix a list of such rows.
type (
	numbers []*big.Rat
	matrix  []numbers
)

func plus(x, y *big.Rat) *big.Rat  { return new(big.Rat).Add(x, y) }
func minus(x, y *big.Rat) *big.Rat { return new(big.Rat).Sub(x, y) }
func times(x, y *big.Rat) *big.Rat { return new(big.Rat).Mul(x, y) }
func over(x, y *big.Rat) *big.Rat  { return new(big.Rat).Quo(x, y) }
func integer(n int) *big.Rat       { return big.NewRat(int64(n), 1) }

// value returns the number of a string.
func value(a api.Rat) *big.Rat {
	x, ok := new(big.Rat).SetString(string(a))
	if !ok {
		panic("not a number: " + string(a))
	}
	return x
}

// values returns the numbers of strings.
func values(strings []api.Rat) numbers {
	var all numbers
	for _, a := range strings {
		all = append(all, value(a))
	}
	return all
}

// valueRows returns the numbers of a matrix of strings.
func valueRows(m [][]api.Rat) matrix {
	var all matrix
	for _, row := range m {
		all = append(all, values(row))
	}
	return all
}

// rat returns the string of a number.
func rat(x *big.Rat) api.Rat { return api.Rat(x.RatString()) }

// rats returns the strings of numbers.
func (x numbers) rats() []api.Rat {
	var all []api.Rat
	for _, a := range x {
		all = append(all, rat(a))
	}
	return all
}

// rats returns the strings of a matrix.
func (m matrix) rats() [][]api.Rat {
	var all [][]api.Rat
	for _, row := range m {
		all = append(all, row.rats())
	}
	return all
}

// dot returns the sum of the products of the numbers of two lists.
func (x numbers) dot(y numbers) *big.Rat {
	sum := new(big.Rat)
	for i, a := range x {
		sum.Add(sum, times(a, y[i]))
	}
	return sum
}

// scaled returns each number times a factor.
func (x numbers) scaled(factor *big.Rat) numbers {
	var all numbers
	for _, a := range x {
		all = append(all, times(a, factor))
	}
	return all
}

// plus returns the sum of two lists.
func (x numbers) plus(y numbers) numbers {
	var all numbers
	for i, a := range x {
		all = append(all, plus(a, y[i]))
	}
	return all
}

// minus returns the difference of two lists.
func (x numbers) minus(y numbers) numbers { return x.plus(y.scaled(integer(-1))) }

// isZero reports whether all numbers are 0.
func (x numbers) isZero() bool { return x.dot(x).Sign() == 0 }

// column returns a column of a matrix.
func (m matrix) column(j int) numbers {
	var all numbers
	for _, row := range m {
		all = append(all, row[j])
	}
	return all
}

// apply returns the product of a matrix and a list.
func (m matrix) apply(x numbers) numbers {
	var all numbers
	for _, row := range m {
		all = append(all, row.dot(x))
	}
	return all
}

// cost returns the cost of a command for slopes.
func (m matrix) cost(weights, slopes, command numbers) *big.Rat {
	sum := new(big.Rat)
	for i, a := range slopes.minus(m.apply(command)) {
		sum.Add(sum, times(weights[i], times(a, a)))
	}
	return sum
}

// rank returns the rank of a matrix, by Gauss's elimination.
func (m matrix) rank() int {
	left, rank := slices.Clone(m), 0
	for len(left) > 0 {
		row := left[0]
		left = left[1:]
		pivot := slices.IndexFunc(row, func(a *big.Rat) bool { return a.Sign() != 0 })
		if pivot < 0 {
			continue
		}
		rank++
		for i, other := range left {
			left[i] = other.minus(row.scaled(over(other[pivot], row[pivot])))
		}
	}
	return rank
}

// small returns a number with few digits, often 0.
func small(random *rand.Rand) *big.Rat {
	return big.NewRat(int64(random.Intn(13)-6), int64(1+random.Intn(3)))
}

// someList returns numbers with few digits.
func someList(random *rand.Rand, n int) numbers {
	x := make(numbers, n)
	for i := range x {
		x[i] = small(random)
	}
	return x
}

// someWeights returns numbers above 0 that mostly differ.
func someWeights(random *rand.Rand, n int) numbers {
	x := make(numbers, n)
	for i := range x {
		x[i] = big.NewRat(int64(1+random.Intn(9)), int64(1+random.Intn(4)))
	}
	return x
}

// someMatrix returns a matrix of at most the given rank.
func someMatrix(random *rand.Rand, count, columns, rank int) matrix {
	var base matrix
	for range rank {
		base = append(base, someList(random, columns))
	}
	m := make(matrix, count)
	for i := range m {
		if i < rank {
			m[i] = base[i]
			continue
		}
		m[i] = make(numbers, columns)
		for j := range m[i] {
			m[i][j] = new(big.Rat)
		}
		for _, row := range base {
			m[i] = m[i].plus(row.scaled(integer(random.Intn(5) - 2)))
		}
	}
	random.Shuffle(count, func(i, k int) { m[i], m[k] = m[k], m[i] })
	return m
}

// someInteraction returns an interaction matrix of any shape up to a certain size, and of any rank.
func someInteraction(random *rand.Rand, slopes, actuators int) matrix {
	count, columns := 1+random.Intn(slopes), 1+random.Intn(actuators)
	m := someMatrix(random, count, columns, random.Intn(min(count, columns)+1))
	if random.Intn(3) == 0 {
		j := random.Intn(columns)
		for _, row := range m {
			row[j] = new(big.Rat)
		}
	}
	return m
}

// wrongRat is a number with its first error.
type wrongRat struct {
	a api.Rat
	e api.Errno
}

// wrongRats are strings that are not numbers.
func wrongRats() []wrongRat {
	all := []wrongRat{{digits601, api.ErrLarge}, {"1/" + digits601, api.ErrLarge}, {"-" + digits601, api.ErrLarge}}
	for _, a := range []api.Rat{"", "-", "-0", "+1", "01", " 1", "1/", "/2", "1/0", "1/1", "1/-2", "2/4", "0/5", "1.5", "x", "\xff"} {
		all = append(all, wrongRat{a, api.ErrForm})
	}
	return all
}

// wrongList is a list of numbers with its first error.
type wrongList struct {
	list []api.Rat
	e    api.Errno
}

// wrongLists are wrong lists for so many numbers.
func wrongLists(n int) []wrongList {
	all := []wrongList{{repeated("?", n+1), api.ErrShape}, {repeated("?", n-1), api.ErrShape}, {repeated("1", n+1), api.ErrShape}}
	for _, w := range wrongRats() {
		first, last := repeated("?", n), repeated("1", n)
		first[0], last[n-1] = w.a, w.a
		all = append(all, wrongList{first, w.e}, wrongList{last, w.e})
	}
	return all
}

// limitedLists are wrong lists for so many numbers, some of them because of numbers out of their range.
func limitedLists(n int, outside ...api.Rat) []wrongList {
	all := wrongLists(n)
	for _, a := range outside {
		first, last := repeated("?", n), repeated("1", n)
		first[0], last[n-1] = a, a
		all = append(all, wrongList{first, api.ErrRange}, wrongList{last, api.ErrRange})
	}
	return all
}

// wrongWeights are wrong weights for so many slopes.
func wrongWeights(n int) []wrongList { return limitedLists(n, "0", "-1", "-1/"+nines600) }

// wrongRows is a list of rows with its first error.
type wrongRows struct {
	rows [][]api.Rat
	e    api.Errno
}

// wrongMatrices are wrong matrices where so many rows and columns are permitted.
func wrongMatrices(most, columns int) []wrongRows {
	all := []wrongRows{
		{nil, api.ErrEmpty},
		{[][]api.Rat{{}}, api.ErrEmpty},
		{[][]api.Rat{{}, {"?"}}, api.ErrEmpty},
		{make([][]api.Rat, most+1), api.ErrEmpty},
		{filled(most+1, 1, "?"), api.ErrMany},
		{filled(most+1, columns, "1"), api.ErrMany},
		{filled(1, columns+1, "?"), api.ErrMany},
		{filled(most, columns+1, "1"), api.ErrMany},
		{rows("1 2; 1; ? ?"), api.ErrShape},
		{rows("1; 1 2"), api.ErrShape},
		{rows("1 2; 1 2;"), api.ErrShape},
		{rows("1 2; ?"), api.ErrShape},
		{rows("1; 2; ? ?"), api.ErrShape},
		{rows("? 2; 1"), api.ErrForm},
		{[][]api.Rat{{"1"}, repeated("1", columns+1)}, api.ErrShape},
	}
	for _, w := range wrongRats() {
		first, last := filled(most, columns, "?"), filled(most, columns, "1")
		first[0][0], last[most-1][columns-1] = w.a, w.a
		all = append(all, wrongRows{first, w.e}, wrongRows{last, w.e})
	}
	return all
}

// wrongModes are wrong modes for so many actuators.
func wrongModes(n int) []wrongRows {
	all := []wrongRows{{nil, api.ErrEmpty}, {make([][]api.Rat, api.MaxModes+1), api.ErrMany}, {filled(api.MaxModes+1, n, "1"), api.ErrMany}}
	return append(all, wrongVectors(n)...)
}

// wrongVectors are lists of which one is wrong for so many numbers.
func wrongVectors(n int) []wrongRows {
	var all []wrongRows
	for _, w := range wrongLists(n) {
		all = append(all, wrongRows{[][]api.Rat{w.list, {"?"}}, w.e}, wrongRows{[][]api.Rat{repeated("1", n), w.list}, w.e})
	}
	return all
}

// example is the matrix D of the chapter's examples.
func example() [][]api.Rat { return rows("1 -1 0; 0 1 -1") }

// single is the matrix of example 3, with one actuator.
func single() [][]api.Rat { return rows("1; 2") }
