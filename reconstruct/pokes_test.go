package reconstruct_test

import (
	"math/big"
	"math/rand"
	"slices"
	"testing"

	"lenslet/api"
	"lenslet/reconstruct"
)

// P5.1

// poke returns a poke.
func poke(actuator int, amount api.Rat, slopes string) reconstruct.Poke {
	return reconstruct.Poke{Actuator: actuator, Amount: amount, Slopes: list(slopes)}
}

func TestPokesExample(t *testing.T) {
	pokes := []reconstruct.Poke{poke(0, "2", "2 4"), poke(0, "-1", "-3 -2")}
	want(t, "Interaction", both(reconstruct.Interaction(pokes, 2, 1)), is(rows("2; 2")))
	want(t, "Scatter", both(reconstruct.Scatter(pokes, 2, 1)), is(list("2")))
}

// somePokes returns pokes of so many actuators, at least one of each, in any order.
func somePokes(random *rand.Rand, slopes, actuators, more int) []reconstruct.Poke {
	var pokes []reconstruct.Poke
	for k := range actuators + more {
		actuator := k
		if k >= actuators {
			actuator = random.Intn(actuators)
		}
		amount := big.NewRat(int64(1+random.Intn(9)), int64(1+random.Intn(4)))
		if random.Intn(2) == 0 {
			amount.Neg(amount)
		}
		pokes = append(pokes, reconstruct.Poke{Actuator: actuator, Amount: rat(amount), Slopes: someList(random, slopes).rats()})
	}
	random.Shuffle(len(pokes), func(i, k int) { pokes[i], pokes[k] = pokes[k], pokes[i] })
	return pokes
}

// responsesOf returns the responses of the pokes of an actuator.
func responsesOf(pokes []reconstruct.Poke, actuator int) matrix {
	var all matrix
	for _, p := range pokes {
		if p.Actuator == actuator {
			all = append(all, values(p.Slopes).scaled(over(integer(1), value(p.Amount))))
		}
	}
	return all
}

// meanOf returns the mean of lists.
func meanOf(m matrix) numbers {
	var mean numbers
	for j := range m[0] {
		sum := new(big.Rat)
		for _, x := range m.column(j) {
			sum.Add(sum, x)
		}
		mean = append(mean, over(sum, integer(len(m))))
	}
	return mean
}

// checkPokes compares the results for pokes with their definitions.
func checkPokes(t *testing.T, pokes []reconstruct.Poke, slopes, actuators int) {
	t.Helper()
	var columns matrix
	var scatters numbers
	for k := range actuators {
		responses := responsesOf(pokes, k)
		mean := meanOf(responses)
		columns = append(columns, mean)
		sum := new(big.Rat)
		for _, r := range responses {
			sum.Add(sum, r.minus(mean).dot(r.minus(mean)))
		}
		scatters = append(scatters, sum)
	}
	var d matrix
	for i := range slopes {
		d = append(d, columns.column(i))
	}
	want(t, "Interaction", both(reconstruct.Interaction(pokes, slopes, actuators)), is(d.rats()))
	want(t, "Scatter", both(reconstruct.Scatter(pokes, slopes, actuators)), is(scatters.rats()))
}

func TestPokes(t *testing.T) {
	random := rand.New(rand.NewSource(1))
	for range 150 {
		slopes, actuators := 1+random.Intn(5), 1+random.Intn(5)
		checkPokes(t, somePokes(random, slopes, actuators, random.Intn(12)), slopes, actuators)
	}
	checkPokes(t, somePokes(random, 64, 16, 4), 64, 16)
	checkPokes(t, somePokes(random, 1, 1, 0), 1, 1)
	checkPokes(t, somePokes(random, 2, 16, 240), 2, 16)
	checkPokes(t, somePokes(random, 1, 1, 255), 1, 1)
}

func TestPokesOfManyDigits(t *testing.T) {
	for _, row := range []struct {
		what    string
		pokes   []reconstruct.Poke
		matrix  result[[][]api.Rat]
		scatter result[[]api.Rat]
	}{
		{
			"a large slope by a large amount", []reconstruct.Poke{poke(0, "-"+nines600, string(nines600))},
			is(rows("-1")), is(list("0")),
		},
		{
			"a sum with too many digits", []reconstruct.Poke{poke(0, "1", string(nines600)), poke(0, "1", string(nines600))},
			is([][]api.Rat{{nines600}}), is(list("0")),
		},
		{
			"responses with too many digits", []reconstruct.Poke{poke(0, "1/10", string(nines600)), poke(0, "-1/10", string(nines600))},
			is(rows("0")), fails[[]api.Rat](api.ErrLarge),
		},
		{
			"a response with too many digits", []reconstruct.Poke{poke(0, "1/10", string(nines600))},
			fails[[][]api.Rat](api.ErrLarge), is(list("0")),
		},
		{
			"a last slope with too many digits", []reconstruct.Poke{poke(0, "1", "1 1"), poke(1, "1/10", "1 "+string(nines600))},
			fails[[][]api.Rat](api.ErrLarge), is(list("0 0")),
		},
		{
			"a denominator with too many digits", []reconstruct.Poke{poke(0, nines600, "1/2")},
			fails[[][]api.Rat](api.ErrLarge), is(list("0")),
		},
		{
			"a scatter with 600 digits", []reconstruct.Poke{poke(0, "1", string(power10(299))), poke(0, "-1", string(power10(299)))},
			is(rows("0")), is([]api.Rat{"2" + power10(598)[1:]}),
		},
		{
			"a scatter with too many digits", []reconstruct.Poke{poke(0, "1", "1"), poke(1, "1", string(power10(300))), poke(1, "-1", string(power10(300)))},
			is(rows("1 0")), fails[[]api.Rat](api.ErrLarge),
		},
	} {
		slopes, actuators := len(row.pokes[0].Slopes), 1+row.pokes[len(row.pokes)-1].Actuator
		want(t, "Interaction of "+row.what, both(reconstruct.Interaction(row.pokes, slopes, actuators)), row.matrix)
		want(t, "Scatter of "+row.what, both(reconstruct.Scatter(row.pokes, slopes, actuators)), row.scatter)
	}
}

// failing reports that pokes do not have a certain error.
func failing(t *testing.T, what string, pokes []reconstruct.Poke, slopes, actuators int, e api.Errno) {
	t.Helper()
	want(t, "Interaction with "+what, both(reconstruct.Interaction(pokes, slopes, actuators)), fails[[][]api.Rat](e))
	want(t, "Scatter with "+what, both(reconstruct.Scatter(pokes, slopes, actuators)), fails[[]api.Rat](e))
}

func TestWrongSizesOfPokes(t *testing.T) {
	many := make([]reconstruct.Poke, reconstruct.MaxPokes+1)
	for _, n := range []int{-far - 1, -1, 0, 65, far} {
		failing(t, "a wrong number of slopes", many, n, 1, api.ErrRange)
		failing(t, "wrong numbers", many, n, n, api.ErrRange)
	}
	for _, n := range []int{-far - 1, -1, 0, 17, 64, far} {
		failing(t, "a wrong number of actuators", many, 1, n, api.ErrRange)
	}
	failing(t, "257 pokes", many, 64, 16, api.ErrMany)
	failing(t, "257 good pokes", slices.Repeat([]reconstruct.Poke{poke(0, "1", "1")}, 257), 1, 1, api.ErrMany)
	failing(t, "257 pokes and an actuator without one", slices.Repeat([]reconstruct.Poke{poke(0, "1", "1")}, 257), 1, 2, api.ErrMany)
}

func TestWrongPokes(t *testing.T) {
	good, worse := poke(1, "1", "1 2"), poke(9, "?", "? ? ?")
	wrong := func(what string, p reconstruct.Poke, e api.Errno) {
		t.Helper()
		failing(t, what, []reconstruct.Poke{p}, 2, 2, e)
		failing(t, what+", the second one", []reconstruct.Poke{good, p, worse}, 2, 2, e)
		failing(t, what+", the last one", []reconstruct.Poke{poke(0, "1", "0 0"), good, p}, 2, 2, e)
	}
	for _, actuator := range []int{-far - 1, -1, 2, 16, far} {
		wrong("no such actuator", poke(actuator, "?", "?"), api.ErrUnknown)
		wrong("no such actuator", poke(actuator, "1", "1 2"), api.ErrUnknown)
	}
	for _, w := range wrongRats() {
		wrong("a wrong amount", reconstruct.Poke{Actuator: 1, Amount: w.a, Slopes: list("?")}, w.e)
		wrong("a wrong amount", reconstruct.Poke{Amount: w.a, Slopes: list("1 2")}, w.e)
	}
	wrong("the amount 0", poke(1, "0", "?"), api.ErrZero)
	wrong("the amount 0", poke(0, "0", "1 2"), api.ErrZero)
	for _, w := range wrongLists(2) {
		wrong("wrong slopes", reconstruct.Poke{Actuator: 1, Amount: "-1/2", Slopes: w.list}, w.e)
	}
}

func TestActuatorsWithoutPokes(t *testing.T) {
	failing(t, "no pokes", nil, 1, 1, api.ErrNone)
	failing(t, "no pokes", []reconstruct.Poke{}, 64, 16, api.ErrNone)
	failing(t, "an actuator without a poke", []reconstruct.Poke{poke(0, "1", "1"), poke(2, "1", "1")}, 1, 3, api.ErrNone)
	failing(t, "a first actuator without a poke", []reconstruct.Poke{poke(1, "1", "1")}, 1, 2, api.ErrNone)
	failing(t, "a last actuator without a poke", []reconstruct.Poke{poke(0, "1", "1")}, 1, 2, api.ErrNone)
	failing(t, "a wrong poke and no other", []reconstruct.Poke{poke(0, "1", "1"), poke(0, "1", "x")}, 1, 2, api.ErrForm)
	failing(t, "an actuator without a poke and large numbers", []reconstruct.Poke{poke(0, "1/10", string(nines600))}, 1, 2, api.ErrNone)
}
