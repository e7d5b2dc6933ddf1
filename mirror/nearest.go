package mirror

import (
	"lenslet/api"
	"lenslet/check"
	"lenslet/exact"
	"lenslet/total"
)

// search looks for the nearest command. It takes a force to hold an actuator at a number: the number
// less its target, and what its links pass on from the actuators that hang on it. A link passes on
// nothing while what hangs on it can rest where it needs no force. The forces rise with the number
// and are curves, so that each actuator finds its rest where its curve is 0.
type search struct {
	plate
	unit   exact.Number   // so many units make 1
	wall   exact.Number   // at least all forces together, which are the targets less the numbers
	target []exact.Number // 0 for the actuators that are not free
	rests  []exact.Number
	passed []curve // what comes through the link to each actuator, by the number of the one before it
	found  []exact.Number
	forces []exact.Number
	byLink map[[2]int]exact.Number // the forces of the links
}

// newSearch returns a search with a unit in which all targets and limits are integers.
func newSearch(p plate, target []exact.Number) search {
	n := len(target)
	lengths := append(p.command(target), p.stroke, p.gap)
	unit := toIntegers(lengths)
	p.stroke, p.gap = lengths[n], lengths[n+1]
	zeros := func() []exact.Number { return make([]exact.Number, n) }
	s := search{
		plate: p, unit: unit, target: zeros(), rests: zeros(), passed: make([]curve, n),
		found: zeros(), forces: zeros(), byLink: map[[2]int]exact.Number{},
	}
	var sizes []exact.Number
	for i := range p.free() {
		s.target[i] = lengths[i]
		sizes = append(sizes, lengths[i].Abs(), p.stroke)
	}
	s.wall = total.Of(sizes, exact.Number.Add)
	return s
}

// alone returns the curve of an actuator without links. It jumps at the limits of the actuator by so
// much that nothing forces the actuator beyond them.
func (s search) alone(i int) curve {
	limit := exact.Number{}
	if s.isFree(i) {
		limit = s.stroke
	}
	wall := line{start: s.wall}
	own := line{s.target[i].Neg(), exact.Of(1, 1)}
	return curve{own.plus(wall.neg()), []knot{{limit.Neg(), wall}, {limit, wall}}}
}

// bend finds the rests of the actuator to which a step leads, and of all that hang on it.
func (s search) bend(here step) {
	all := s.alone(here.to)
	for _, next := range s.onward(here) {
		s.bend(next)
		all = all.plus(s.passed[next.to])
	}
	rest := all.zero()
	s.rests[here.to], s.passed[here.to] = rest, all.parted(rest, s.gap)
}

// settle finds the numbers and the forces of the actuator to which a step leads, and of all that hang
// on it, where the actuator has a number, and the link of the step holds it there with a force.
func (s search) settle(here step, x, hold exact.Number) {
	onward := s.onward(here)
	spans := []span{s.alone(here.to).jump(x)}
	for _, next := range onward {
		spans = append(spans, s.passed[next.to].jump(x))
	}
	list := shares(spans, hold)
	s.found[here.to] = x
	s.forces[here.to] = list[0].Add(s.target[here.to]).Sub(x)
	for k, next := range onward {
		force := list[k+1]
		s.settle(next, s.rests[next.to].Within(x.Sub(s.gap), x.Add(s.gap)), force)
		if next.to == next.link[0] {
			force = force.Neg()
		}
		s.byLink[next.link] = force
	}
}

// write returns the strings of numbers in units, or ErrLarge.
func (s search) write(list []exact.Number) ([]api.Rat, api.Errno) {
	return check.Each(list, func(x exact.Number) (api.Rat, api.Errno) { return x.Quo(s.unit).Rat() })
}

// Nearest returns the command within all limits that is nearest to a target, with a proof.
func Nearest(m Mirror, target []api.Rat) ([]api.Rat, Proof, api.Errno) {
	p, numbers, e := readTarget(m, target)
	if e != api.OK {
		return nil, Proof{}, e
	}
	s := newSearch(p, numbers)
	for _, first := range p.beginnings() {
		s.bend(first)
		s.settle(first, s.rests[first.to], exact.Number{})
	}
	actuators := make([]exact.Number, len(s.forces))
	for i := range p.free() { // what holds the others at 0 is no force of a proof
		actuators[i] = s.forces[i]
	}
	var links []exact.Number
	for _, link := range p.links {
		links = append(links, s.byLink[link])
	}
	c, wrongCommand := s.write(p.command(s.found))
	onActuators, wrongActuators := s.write(actuators)
	onLinks, wrongLinks := s.write(links)
	if e := check.First(wrongCommand, wrongActuators, wrongLinks); e != api.OK {
		return nil, Proof{}, e
	}
	return c, Proof{onActuators, onLinks}, api.OK
}
