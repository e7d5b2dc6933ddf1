package loop_test

import (
	"math/big"
	"math/rand"
	"testing"

	"lenslet/api"
	"lenslet/loop"
)

// P6.4: runs.

func TestRuns(t *testing.T) {
	ones := repeated("1", 4)
	want(t, "Run", runOf(example(), ones), is(history{list("1 1/2 1/4 1/8"), list("0 1/2 3/4 7/8")}))
	want(t, "Cost", both(loop.Cost(example(), ones)), is(api.Rat("85/64")))
	want(t, "Impulse", both(loop.Impulse(example(), 3)), is(list("1 -1/2 -1/4")))
	want(t, "Best", bestOf(example(), list("1 5/2 1/2"), list("1 1")), is(choice{0, "1"}))
}

func TestRunsByDefinition(t *testing.T) {
	random := rand.New(rand.NewSource(1))
	for k := range 300 {
		n := random.Intn(13)
		if k%20 == 0 {
			n = loop.MaxRun
		}
		l, d := someLoop(random), someList(random, n)
		if k%20 == 0 {
			l.Gain, l.Leak = "1/2", "1"
		}
		residuals, commands := run(l, d)
		want(t, "Run", runOf(l, d.rats()), is(history{residuals.rats(), commands.rats()}))
		want(t, "Cost", both(loop.Cost(l, d.rats())), is(rat(residuals.squares())))
		impulse := zeros(n)
		if n > 0 {
			impulse[0] = integer(1)
		}
		residuals, _ = run(l, impulse)
		want(t, "Impulse", both(loop.Impulse(l, n)), is(residuals.rats()))
	}
}

func TestRunsAtTheEnds(t *testing.T) {
	longest := repeated("1", loop.MaxRun)
	tooLong := append(repeated("1", loop.MaxRun), "1")
	open := loop.Loop{Gain: "0", Leak: "1", Prediction: "0", Delay: 6}
	want(t, "Run of 64 numbers", runOf(open, longest), is(history{longest, repeated("0", loop.MaxRun)}))
	want(t, "Run of 65 numbers", runOf(open, tooLong), fails[history](api.ErrMany))
	want(t, "Run of nothing", runOf(open, nil), is(history{}))
	want(t, "Run of an empty record", runOf(unstable(), list("")), is(history{}))
	want(t, "Cost of 64 numbers", both(loop.Cost(open, longest)), is(api.Rat("64")))
	want(t, "Cost of 65 numbers", both(loop.Cost(open, tooLong)), fails[api.Rat](api.ErrMany))
	want(t, "Cost of nothing", both(loop.Cost(unstable(), nil)), is(api.Rat("0")))
	want(t, "Impulse of 0 residuals", both(loop.Impulse(unstable(), 0)), is([]api.Rat(nil)))
	want(t, "Impulse of 1 residual", both(loop.Impulse(unstable(), 1)), is(list("1")))
	want(t, "Impulse of 64 residuals", both(loop.Impulse(open, 64)), is(append(list("1"), repeated("0", 63)...)))
	want(t, "Impulse of an unstable loop", both(loop.Impulse(unstable(), 5)), is(list("1 -2 2 -2 2")))
	// The delay is 6: the command answers to the residual seven frames before.
	late := loop.Loop{Gain: "1/2", Leak: "0", Prediction: "1/4", Delay: 6}
	want(t, "Impulse with a delay", both(loop.Impulse(late, 9)), is(list("1 0 0 0 0 0 0 -3/4 1/4")))
	for delay := range loop.MaxDelay + 1 {
		wanted := repeated("0", 8)
		wanted[0], wanted[delay+1] = "1", "-1/2"
		want(t, "Impulse with a delay", both(loop.Impulse(loop.Loop{Gain: "1/2", Leak: "0", Prediction: "0", Delay: delay}, delay+2)), is(wanted[:delay+2]))
	}
}

func TestRunsTooLarge(t *testing.T) {
	l := loop.Loop{Gain: power10(300), Leak: "1", Prediction: "0"}
	want(t, "Run with 600 digits", runOf(l, []api.Rat{power10(299), "0"}), is(history{[]api.Rat{power10(299), "-" + power10(599)}, []api.Rat{"0", power10(599)}}))
	want(t, "Run with 601 digits", runOf(l, []api.Rat{power10(300), "0"}), fails[history](api.ErrLarge))
	// A command that is too large, beside a residual that is not.
	want(t, "Run with a command of 601 digits", runOf(l, []api.Rat{power10(300), power10(599)}), fails[history](api.ErrLarge))
	// A residual that is too large, beside a command that is not.
	l.Gain = "5" + power10(300)[1:]
	want(t, "Run with a residual of 601 digits", runOf(l, []api.Rat{power10(299), "-6" + power10(599)[1:]}), fails[history](api.ErrLarge))
	l.Gain = power10(300)
	one := loop.Loop{Gain: "1", Leak: "0", Prediction: "1"}
	want(t, "Run with a command of 601 digits", runOf(one, []api.Rat{nines600, nines600}), fails[history](api.ErrLarge))
	want(t, "Run that ends before a large command", runOf(l, []api.Rat{nines600}), is(history{[]api.Rat{nines600}, list("0")}))
	want(t, "Impulse with 600 digits", both(loop.Impulse(l, 2)), is([]api.Rat{"1", "-" + power10(300)}))
	want(t, "Impulse with 600 digits", both(loop.Impulse(l, 3)), is([]api.Rat{"1", "-" + power10(300), nines600[:300] + power10(300)[1:]}))
	want(t, "Impulse with 601 digits", both(loop.Impulse(l, 4)), fails[[]api.Rat](api.ErrLarge))
	want(t, "Impulse with 601 digits below", both(loop.Impulse(loop.Loop{Gain: "1/" + power10(300), Leak: "1/2", Prediction: "0", Delay: 1}, 5)), fails[[]api.Rat](api.ErrLarge))
	want(t, "Cost with 601 digits", both(loop.Cost(l, []api.Rat{power10(300)})), fails[api.Rat](api.ErrLarge))
	want(t, "Cost with 599 digits", both(loop.Cost(l, []api.Rat{power10(299)})), is(power10(598)))
	want(t, "Cost of a long record", both(loop.Cost(loop.Loop{Gain: "1/" + nines600, Leak: "1/" + nines600, Prediction: "1/2"}, repeated(nines600, 10))), fails[api.Rat](api.ErrLarge))
}

// TestCostByWayOfLargerNumbers has the legs of a triangle with a right angle, whose squares have more
// digits than a number may have, unlike their sum.
func TestCostByWayOfLargerNumbers(t *testing.T) {
	m, n := value(power10(290)), value("1"+power10(288)[1:]+"7")
	m2, n2 := times(m, m), times(n, n)
	side := plus(m2, n2)
	first, second := over(minus(m2, n2), side), over(times(integer(2), times(m, n)), side)
	open := loop.Loop{Gain: "0", Leak: "1", Prediction: "0"}
	want(t, "Cost", both(loop.Cost(open, numbers{first, second}.rats())), is(api.Rat("1")))
	want(t, "Best", bestOf(open, list("0"), list("1")), fails[choice](api.ErrNone))
	open.Leak = "0"
	want(t, "Best", bestOf(open, list("0"), numbers{first, second}.rats()), is(choice{0, "1"}))
}

func TestBest(t *testing.T) {
	leaky := loop.Loop{Gain: "?", Leak: "1/2", Prediction: "0"}
	leaky.Gain = "9"
	for _, row := range []struct {
		l             loop.Loop
		gains, record string
		index         int
		cost          api.Rat
	}{
		{example(), "5/2 1 1 1/2", "1 1", 1, "1"}, // the least of two indices
		{example(), "5/2 1 5/2 1 1", "1 1", 1, "1"},
		{example(), "1/2 3/2 1", "1 1", 2, "1"},
		{example(), "1/2 3/2", "1 1", 0, "5/4"}, // different gains with the same cost
		{example(), "3/2 1/2", "1 1", 0, "5/4"},
		{example(), "3/2 1/2 1", "", 0, "0"}, // all have the same cost
		{example(), "5/2 3/2 1/2 1", "1", 1, "1"},
		{example(), "0 2 1/4", "1 1", 2, "25/16"}, // with 0 and 2 the loop is unstable
		{leaky, "0 1", "1 1", 1, "1"},
		{leaky, "3/2 0", "1 -1", 1, "2"},
		{unstable(), "1", "3", 0, "9"},
	} {
		want(t, "Best of "+row.gains, bestOf(row.l, list(row.gains), list(row.record)), is(choice{row.index, row.cost}))
	}
	want(t, "Best of 32 gains", bestOf(example(), append(repeated("5/2", 31), "1"), list("1")), is(choice{31, "1"}))
	want(t, "Best of 33 gains", bestOf(example(), append(repeated("5/2", 32), "1"), list("1")), fails[choice](api.ErrMany))
	want(t, "Best of unstable ones", bestOf(example(), list("0 2 5/2 3"), list("1")), fails[choice](api.ErrNone))
	want(t, "Best of unstable ones", bestOf(loop.Loop{Gain: "1", Leak: "0", Prediction: "1"}, list("0 1/2"), nil), fails[choice](api.ErrNone))
}

func TestBestByDefinition(t *testing.T) {
	random := rand.New(rand.NewSource(2))
	for range 150 {
		l, record := someLoop(random), someList(random, random.Intn(9))
		var gains numbers
		for range 1 + random.Intn(8) {
			gains = append(gains, big.NewRat(random.Int63n(20), 8))
		}
		best := fails[choice](api.ErrNone)
		var least *big.Rat
		for i, gain := range gains {
			trial := l
			trial.Gain = rat(gain)
			residuals, _ := run(trial, record)
			if cost := residuals.squares(); isStable(t, l, gain) && (least == nil || cost.Cmp(least) < 0) {
				least, best = cost, is(choice{i, rat(cost)})
			}
		}
		want(t, "Best", bestOf(l, gains.rats(), record.rats()), best)
	}
}

func TestBestOfLargeCosts(t *testing.T) {
	tiny := api.Rat("1/" + nines600)
	want(t, "Best beside a large cost", bestOf(example(), []api.Rat{tiny, "1"}, list("1 1")), is(choice{1, "1"}))
	want(t, "Best with a large cost", bestOf(example(), []api.Rat{tiny, "2"}, list("1 1")), fails[choice](api.ErrLarge))
	want(t, "Best with a large record", bestOf(example(), list("1"), []api.Rat{nines600}), fails[choice](api.ErrLarge))
	want(t, "Best of unstable ones with a large record", bestOf(example(), list("2"), []api.Rat{nines600}), fails[choice](api.ErrNone))
}

func TestWrongRuns(t *testing.T) {
	for _, w := range wrongLoops() {
		for _, record := range [][]api.Rat{nil, list("?"), make([]api.Rat, 65)} {
			want(t, "Run", runOf(w.l, record), fails[history](w.e))
			want(t, "Cost", both(loop.Cost(w.l, record)), fails[api.Rat](w.e))
			want(t, "Best", bestOf(w.l, nil, record), fails[choice](w.e))
			want(t, "Best", bestOf(w.l, list("1"), record), fails[choice](w.e))
		}
		want(t, "Impulse", both(loop.Impulse(w.l, -1)), fails[[]api.Rat](w.e))
		want(t, "Impulse", both(loop.Impulse(w.l, 2)), fails[[]api.Rat](w.e))
	}
	for _, w := range wrongRecords() {
		want(t, "Run", runOf(unstable(), w.list), fails[history](w.e))
		want(t, "Cost", both(loop.Cost(unstable(), w.list)), fails[api.Rat](w.e))
		want(t, "Best", bestOf(unstable(), list("2"), w.list), fails[choice](w.e))
	}
	for _, n := range []int{-far - 1, -1, loop.MaxRun + 1, far} {
		want(t, "Impulse", both(loop.Impulse(example(), n)), fails[[]api.Rat](api.ErrRange))
	}
	for _, record := range [][]api.Rat{nil, list("?"), make([]api.Rat, 65)} {
		want(t, "Best of no gains", bestOf(example(), nil, record), fails[choice](api.ErrEmpty))
		for _, w := range wrongLists(loop.MaxGains, outside("-1", "-1/"+nines600)) {
			want(t, "Best of wrong gains", bestOf(example(), w.list, record), fails[choice](w.e))
		}
	}
}
