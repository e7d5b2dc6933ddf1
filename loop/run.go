package loop

import (
	"iter"
	"slices"

	"lenslet/api"
	"lenslet/check"
	"lenslet/exact"
	"lenslet/whole"
)

// frame is the residual and the command of a frame, with a common denominator.
type frame struct {
	residual, command, below whole.Int
}

// readRecord returns the numbers of a record, or its first error.
func readRecord(record []api.Rat) ([]exact.Number, api.Errno) {
	return check.AtMost(record, MaxRun, exact.Parse)
}

// multiple returns a number times a multiple of its denominator.
func multiple(a exact.Number, unit whole.Int) whole.Int { return a.Above().Mul(unit.Quo(a.Below())) }

// unit returns the common denominator of the numbers of a loop.
func (s system) unit() whole.Int {
	return exact.Common([]exact.Number{s.gain, s.leak, s.prediction})
}

// frames visits the frames of a run. The denominator of each frame is that of the frame before times
// the unit of the loop: without common divisors to look for, long runs remain fast.
func (s system) frames(disturbance []exact.Number) iter.Seq[frame] {
	unit, start := s.unit(), exact.Common(disturbance)
	gain, leak, prediction := multiple(s.gain, unit), multiple(s.leak, unit), multiple(s.prediction, unit)
	return func(yield func(frame) bool) {
		below, delayed := start, whole.Of(1)
		for range s.delay {
			delayed = delayed.Mul(unit)
		}
		var residuals []whole.Int
		residual := func(k int) whole.Int {
			if k < 0 {
				return whole.Int{}
			}
			return residuals[k]
		}
		var command whole.Int
		for k, d := range disturbance {
			residuals = append(residuals, multiple(d, below).Sub(command))
			if !yield(frame{residual(k), command, below}) {
				return
			}
			seen, before := residual(k-s.delay), residual(k-s.delay-1)
			correction := gain.Mul(seen).Add(prediction.Mul(seen.Sub(before.Mul(unit))))
			command = leak.Mul(command).Add(correction.Mul(delayed))
			below = below.Mul(unit)
		}
	}
}

// cost returns the sum of the squares of the residuals.
func (s system) cost(record []exact.Number) exact.Number {
	var sum, below whole.Int
	unit := s.unit()
	for f := range s.frames(record) {
		sum = sum.Mul(unit).Mul(unit).Add(f.residual.Mul(f.residual))
		below = f.below
	}
	return exact.New(sum, below.Mul(below))
}

// run returns the residuals and the commands of a run, or ErrLarge.
func (s system) run(disturbance []exact.Number) ([]api.Rat, []api.Rat, api.Errno) {
	var residuals, commands []api.Rat
	for f := range s.frames(disturbance) {
		residual, wrongResidual := exact.New(f.residual, f.below).Rat()
		command, wrongCommand := exact.New(f.command, f.below).Rat()
		if e := check.First(wrongResidual, wrongCommand); e != api.OK {
			return nil, nil, e
		}
		residuals, commands = append(residuals, residual), append(commands, command)
	}
	return residuals, commands, api.OK
}

// Run returns the residuals and the commands of a closed loop.
func Run(l Loop, disturbance []api.Rat) ([]api.Rat, []api.Rat, api.Errno) {
	s, wrongLoop := readLoop(l)
	numbers, wrongRecord := readRecord(disturbance)
	if e := check.First(wrongLoop, wrongRecord); e != api.OK {
		return nil, nil, e
	}
	return s.run(numbers)
}

// Impulse returns the residuals of a closed loop after an impulse.
func Impulse(l Loop, n int) ([]api.Rat, api.Errno) {
	s, e := readLoop(l)
	if e = check.First(e, check.Range(n, 0, MaxRun)); e != api.OK {
		return nil, e
	}
	disturbance := make([]exact.Number, n)
	for k := range min(n, 1) {
		disturbance[k] = one()
	}
	// No command is too large beside its residual: the first one is 0, the others are negated residuals.
	residuals, _, e := s.run(disturbance)
	return residuals, e
}

// Cost returns the sum of the squared residuals of a run.
func Cost(l Loop, record []api.Rat) (api.Rat, api.Errno) {
	s, wrongLoop := readLoop(l)
	numbers, wrongRecord := readRecord(record)
	if e := check.First(wrongLoop, wrongRecord); e != api.OK {
		return "", e
	}
	return s.cost(numbers).Rat()
}

// readTrials returns gains that are tried, or their first error.
func readTrials(gains []api.Rat) ([]exact.Number, api.Errno) {
	if e := check.Count(len(gains), MaxGains); e != api.OK {
		return nil, e
	}
	return check.Each(gains, exact.ParseUnsigned)
}

// Best returns the gain with the least sum of squared residuals, and this sum.
func Best(l Loop, gains, record []api.Rat) (int, api.Rat, api.Errno) {
	s, wrongLoop := readLoop(l)
	trials, wrongGains := readTrials(gains)
	numbers, wrongRecord := readRecord(record)
	if e := check.First(wrongLoop, wrongGains, wrongRecord); e != api.OK {
		return 0, "", e
	}
	var best Loop // none yet: the gain of a loop that is tried is never ""
	costs := map[Loop]exact.Number{}
	for i, gain := range trials {
		trial := s.with(gain)
		if !trial.isStable() {
			continue
		}
		l.Gain = gains[i]
		costs[l] = trial.cost(numbers)
		if best == (Loop{}) || costs[l].Compare(costs[best]) < 0 {
			best = l
		}
	}
	if best == (Loop{}) {
		return 0, "", api.ErrNone
	}
	cost, e := costs[best].Rat()
	if e != api.OK {
		return 0, "", e
	}
	return slices.Index(gains, best.Gain), cost, api.OK
}
