package loop_test

import (
	"math/big"
	"math/rand"
	"reflect"
	"slices"
	"strings"
	"testing"

	"lenslet/api"
	"lenslet/loop"
)

const far = 1<<63 - 1

var (
	nines600  = api.Rat(strings.Repeat("9", api.MaxDigits))
	digits601 = api.Rat("1" + strings.Repeat("0", api.MaxDigits))
)

// power10 returns 10 to the power of an exponent.
func power10(exponent int) api.Rat { return api.Rat("1" + strings.Repeat("0", exponent)) }

// want reports results that differ from the expected ones.
func want(t *testing.T, what string, got, wanted any) {
	t.Helper()
	if !alike(reflect.ValueOf(got), reflect.ValueOf(wanted)) {
		t.Errorf("%s: got %v, want %v", what, got, wanted)
	}
}

// alike reports whether two values are equal; empty slices, also those of results, are equal to nil ones.
func alike(a, b reflect.Value) bool {
	switch {
	case a.Type() != b.Type():
		return false
	case a.Kind() == reflect.Slice && a.Len() == b.Len():
		for i := range a.Len() {
			if !alike(a.Index(i), b.Index(i)) {
				return false
			}
		}
		return true
	case a.Kind() == reflect.Struct:
		for i := range a.NumField() {
			if !alike(a.Field(i), b.Field(i)) {
				return false
			}
		}
		return true
	}
	return reflect.DeepEqual(a.Interface(), b.Interface())
}

// result is a result with its error.
type result[T any] struct {
	Value T
	Error api.Errno
}

// both joins a result with its error.
func both[T any](value T, e api.Errno) result[T] { return result[T]{value, e} }

// fails is the result of a function that returns an error: the zero value beside it.
func fails[T any](e api.Errno) result[T] { return result[T]{Error: e} }

// is is the result of a function that returns no error.
func is[T any](value T) result[T] { return result[T]{value, api.OK} }

// history are the results of Run.
type history struct{ Residuals, Commands []api.Rat }

// runOf returns what Run returns.
func runOf(l loop.Loop, disturbance []api.Rat) result[history] {
	residuals, commands, e := loop.Run(l, disturbance)
	return both(history{residuals, commands}, e)
}

// choice are the results of Best.
type choice struct {
	Index int
	Cost  api.Rat
}

// bestOf returns what Best returns.
func bestOf(l loop.Loop, gains, record []api.Rat) result[choice] {
	index, cost, e := loop.Best(l, gains, record)
	return both(choice{index, cost}, e)
}

// list returns the numbers that stand in a string.
func list(s string) []api.Rat {
	var all []api.Rat
	for _, a := range strings.Fields(s) {
		all = append(all, api.Rat(a))
	}
	return all
}

// repeated returns a list all of whose numbers are the same.
func repeated(a api.Rat, n int) []api.Rat { return slices.Repeat([]api.Rat{a}, n) }

// numbers are numbers of any size, such as the coefficients of a polynomial.
type numbers []*big.Rat

func plus(x, y *big.Rat) *big.Rat  { return new(big.Rat).Add(x, y) }
func minus(x, y *big.Rat) *big.Rat { return new(big.Rat).Sub(x, y) }
func times(x, y *big.Rat) *big.Rat { return new(big.Rat).Mul(x, y) }
func over(x, y *big.Rat) *big.Rat  { return new(big.Rat).Quo(x, y) }
func size(x *big.Rat) *big.Rat     { return new(big.Rat).Abs(x) }
func integer(n int) *big.Rat       { return big.NewRat(int64(n), 1) }

// value returns the number of a string.
func value(a api.Rat) *big.Rat {
	x, ok := new(big.Rat).SetString(string(a))
	if !ok {
		panic("not a number: " + string(a))
	}
	return x
}

// values returns the numbers of strings.
func values(strings []api.Rat) numbers {
	var all numbers
	for _, a := range strings {
		all = append(all, value(a))
	}
	return all
}

// rat returns the string of a number.
func rat(x *big.Rat) api.Rat { return api.Rat(x.RatString()) }

// rats returns the strings of numbers.
func (x numbers) rats() []api.Rat {
	var all []api.Rat
	for _, a := range x {
		all = append(all, rat(a))
	}
	return all
}

// zeros returns so many zeros.
func zeros(n int) numbers {
	x := make(numbers, n)
	for i := range x {
		x[i] = new(big.Rat)
	}
	return x
}

// times returns the product of two polynomials.
func (x numbers) times(y numbers) numbers {
	product := zeros(len(x) + len(y) - 1)
	for i, a := range x {
		for k, b := range y {
			product[i+k] = plus(product[i+k], times(a, b))
		}
	}
	return product
}

// at returns the value of a polynomial.
func (x numbers) at(a *big.Rat) *big.Rat {
	sum := new(big.Rat)
	for _, c := range slices.Backward(x) {
		sum = plus(times(sum, a), c)
	}
	return sum
}

// closed returns the closed polynomial of a loop.
func closed(l loop.Loop) numbers {
	p := zeros(l.Delay + 3)
	p[l.Delay+2] = integer(1)
	p[l.Delay+1] = minus(p[l.Delay+1], value(l.Leak))
	p[1] = plus(p[1], plus(value(l.Gain), value(l.Prediction)))
	p[0] = minus(p[0], value(l.Prediction))
	return p
}

// run returns the residuals and the commands of a loop by their definition.
func run(l loop.Loop, disturbance numbers) (residuals, commands numbers) {
	gain, leak, prediction := value(l.Gain), value(l.Leak), value(l.Prediction)
	e := func(k int) *big.Rat {
		if k < 0 {
			return new(big.Rat)
		}
		return residuals[k]
	}
	u := new(big.Rat)
	for k, d := range disturbance {
		residuals, commands = append(residuals, minus(d, u)), append(commands, u)
		seen, before := e(k-l.Delay), e(k-l.Delay-1)
		u = plus(times(leak, u), plus(times(gain, seen), times(prediction, minus(seen, before))))
	}
	return residuals, commands
}

// squares returns the sum of the squares.
func (x numbers) squares() *big.Rat {
	sum := new(big.Rat)
	for _, a := range x {
		sum = plus(sum, times(a, a))
	}
	return sum
}

// small returns a number with few digits, often 0.
func small(random *rand.Rand) *big.Rat {
	return big.NewRat(int64(random.Intn(13)-6), int64(1+random.Intn(3)))
}

// someList returns numbers with few digits.
func someList(random *rand.Rand, n int) numbers {
	x := make(numbers, n)
	for i := range x {
		x[i] = small(random)
	}
	return x
}

// somePoly returns a polynomial of a degree.
func somePoly(random *rand.Rand, degree int) numbers {
	p := someList(random, degree+1)
	for p[degree].Sign() == 0 {
		p[degree] = small(random)
	}
	return p
}

// someLoop returns a loop that is often stable.
func someLoop(random *rand.Rand) loop.Loop {
	part := func(most int64) api.Rat {
		below := 1 + random.Int63n(12)
		return rat(big.NewRat(random.Int63n(most*below+1), below))
	}
	l := loop.Loop{Gain: part(1), Leak: part(1), Prediction: "0", Delay: random.Intn(loop.MaxDelay + 1)}
	switch random.Intn(4) {
	case 0:
		l.Leak = "1"
	case 1:
		l.Prediction = part(1)
	case 2:
		l.Gain = part(3)
	}
	return l
}

// someStable returns a loop that is stable.
func someStable(random *rand.Rand) loop.Loop {
	for {
		l := someLoop(random)
		p, _ := loop.Closed(l)
		if stable, e := loop.Stable(p); stable && e == api.OK {
			return l
		}
	}
}

// wrongRat is a number with its first error.
type wrongRat struct {
	a api.Rat
	e api.Errno
}

// wrongRats are strings that are not numbers.
func wrongRats() []wrongRat {
	all := []wrongRat{{digits601, api.ErrLarge}, {"1/" + digits601, api.ErrLarge}, {"-" + digits601, api.ErrLarge}}
	for _, a := range []api.Rat{"", "-", "-0", "+1", "01", " 1", "1/", "/2", "1/0", "1/1", "1/-2", "2/4", "0/5", "1.5", "x", "\xff"} {
		all = append(all, wrongRat{a, api.ErrForm})
	}
	return all
}

// outside adds numbers that are out of a range to those that are none.
func outside(list ...api.Rat) []wrongRat {
	all := wrongRats()
	for _, a := range list {
		all = append(all, wrongRat{a, api.ErrRange})
	}
	return all
}

// wrongList is a list of numbers with its first error.
type wrongList struct {
	list []api.Rat
	e    api.Errno
}

// wrongLists are lists in which a number is wrong, or which are too long.
func wrongLists(most int, wrong []wrongRat) []wrongList {
	all := []wrongList{{repeated("?", most+1), api.ErrMany}, {repeated("1", most+1), api.ErrMany}, {make([]api.Rat, 5000), api.ErrMany}}
	for _, w := range wrong {
		first, last := repeated("?", most), repeated("1", most)
		first[0], last[most-1] = w.a, w.a
		all = append(all, wrongList{first, w.e}, wrongList{last, w.e}, wrongList{[]api.Rat{w.a}, w.e})
	}
	return all
}

// wrongPolys are polynomials with an error.
func wrongPolys() []wrongList {
	all := []wrongList{
		{nil, api.ErrEmpty},
		{list("0"), api.ErrZero},
		{list("1 2 0"), api.ErrZero},
		{list("? 0"), api.ErrForm},
		{append(repeated("1", api.MaxOrder), "0"), api.ErrZero},
	}
	return append(all, wrongLists(api.MaxOrder+1, wrongRats())...)
}

// wrongRecords are records with an error.
func wrongRecords() []wrongList { return wrongLists(loop.MaxRun, wrongRats()) }

// wrongLoop is a loop with its first error.
type wrongLoop struct {
	l loop.Loop
	e api.Errno
}

// wrongLoops are loops with an error, among them loops with several ones.
func wrongLoops() []wrongLoop {
	all := []wrongLoop{
		{loop.Loop{}, api.ErrForm},
		{loop.Loop{Gain: "-1", Leak: "?", Prediction: "?", Delay: -1}, api.ErrRange},
		{loop.Loop{Gain: "0", Leak: "?", Prediction: "-1", Delay: -1}, api.ErrForm},
		{loop.Loop{Gain: "0", Leak: "2", Prediction: "?", Delay: 7}, api.ErrRange},
		{loop.Loop{Gain: "0", Leak: "0", Prediction: "?", Delay: 7}, api.ErrForm},
	}
	add := func(l loop.Loop, e api.Errno) { all = append(all, wrongLoop{l, e}) }
	for _, w := range outside("-1", "-1/"+nines600) {
		add(loop.Loop{Gain: w.a, Leak: "?", Prediction: digits601, Delay: 7}, w.e)
		add(loop.Loop{Gain: w.a, Leak: "1", Prediction: "0"}, w.e)
		add(loop.Loop{Gain: "1", Leak: "1", Prediction: w.a, Delay: -1}, w.e)
		add(loop.Loop{Gain: "1", Leak: "1", Prediction: w.a}, w.e)
	}
	for _, w := range outside("-1", "2", "-1/"+nines600, power10(599)+"/"+nines600[:599]) {
		add(loop.Loop{Gain: "1", Leak: w.a, Prediction: "-1", Delay: 7}, w.e)
		add(loop.Loop{Gain: "1", Leak: w.a, Prediction: "0"}, w.e)
	}
	for _, delay := range []int{-far - 1, -1, loop.MaxDelay + 1, far} {
		add(loop.Loop{Gain: "1", Leak: "1", Prediction: "0", Delay: delay}, api.ErrRange)
	}
	return all
}

// example is the loop L of the chapter's examples.
func example() loop.Loop { return loop.Loop{Gain: "1/2", Leak: "1", Prediction: "0"} }

// delayed returns the loop L with a delay.
func delayed(delay int) loop.Loop {
	l := example()
	l.Delay = delay
	return l
}

// unstable returns a loop that is not stable.
func unstable() loop.Loop { return loop.Loop{Gain: "2", Leak: "1", Prediction: "0"} }
