package mirror

import (
	"slices"

	"lenslet/api"
	"lenslet/check"
	"lenslet/exact"
	"lenslet/total"
)

// readNumbers returns a number for each actuator, or their first error.
func (p plate) readNumbers(list []api.Rat) ([]exact.Number, api.Errno) {
	if len(list) != len(p.places) {
		return nil, api.ErrShape
	}
	return check.Each(list, exact.Parse)
}

// readTarget returns a mirror and a number for each of its actuators, or their first error.
func readTarget(m Mirror, list []api.Rat) (plate, []exact.Number, api.Errno) {
	p, e := readMirror(m)
	if e != api.OK {
		return plate{}, nil, e
	}
	numbers, e := p.readNumbers(list)
	return p, numbers, e
}

// readCommand returns the numbers of a command within the limits, or its first error.
func (p plate) readCommand(list []api.Rat) ([]exact.Number, api.Errno) {
	c, e := p.readNumbers(list)
	if e != api.OK {
		return nil, e
	}
	return c, check.First(p.checkForm(c), p.checkLimits(c))
}

// checkForm returns the error of numbers that are not a command, or OK.
func (p plate) checkForm(c []exact.Number) api.Errno {
	for i, dead := range p.dead {
		if dead && c[i].Sign() != 0 {
			return api.ErrDead
		}
	}
	for slave, master := range p.masters {
		if c[slave].Compare(c[master]) != 0 {
			return api.ErrRule
		}
	}
	return api.OK
}

// checkLimits returns the error of a command that is not within the limits, or OK.
func (p plate) checkLimits(c []exact.Number) api.Errno {
	for i := range p.free() {
		if c[i].Abs().Compare(p.stroke) > 0 {
			return api.ErrRange
		}
	}
	for _, link := range p.links {
		if difference(c, link).Abs().Compare(p.gap) > 0 {
			return api.ErrConflict
		}
	}
	return api.OK
}

// difference returns by how much the number of the first actuator of a link is above that of the second one.
func difference(c []exact.Number, link [2]int) exact.Number { return c[link[0]].Sub(c[link[1]]) }

// command returns the command that has the numbers of a list for the free actuators.
func (p plate) command(numbers []exact.Number) []exact.Number {
	c := make([]exact.Number, len(p.places))
	copy(c, numbers)
	for i, dead := range p.dead {
		if dead {
			c[i] = exact.Number{}
		}
	}
	for slave, master := range p.masters { // no master is a slave
		c[slave] = c[master]
	}
	return c
}

// writeNumbers returns the strings of numbers, or ErrLarge.
func writeNumbers(list []exact.Number) ([]api.Rat, api.Errno) {
	return check.Each(list, exact.Number.Rat)
}

// CheckCommand returns the first error of a command, or OK.
func CheckCommand(m Mirror, c []api.Rat) api.Errno {
	p, e := readMirror(m)
	if e != api.OK {
		return e
	}
	_, e = p.readCommand(c)
	return e
}

// Expand returns the command with certain numbers of the free actuators.
func Expand(m Mirror, free []api.Rat) ([]api.Rat, api.Errno) {
	p, e := readMirror(m)
	if e != api.OK {
		return nil, e
	}
	actuators := slices.Collect(p.free())
	if len(free) != len(actuators) {
		return nil, api.ErrShape
	}
	some, e := check.Each(free, exact.Parse)
	if e != api.OK {
		return nil, e
	}
	numbers := make([]exact.Number, len(p.places))
	for k, i := range actuators {
		numbers[i] = some[k]
	}
	return writeNumbers(p.command(numbers))
}

// Poke returns the command that moves one actuator, and its slaves.
func Poke(m Mirror, actuator int, by api.Rat) ([]api.Rat, api.Errno) {
	p, e := readMirror(m)
	if e != api.OK {
		return nil, e
	}
	height, wrongHeight := exact.Parse(by)
	_, slaved := p.masters[actuator]
	e = check.First(
		check.If(!m.has(actuator), api.ErrUnknown),
		wrongHeight,
		check.If(m.isDead(actuator), api.ErrDead),
		check.If(slaved, api.ErrRule),
	)
	if e != api.OK {
		return nil, e
	}
	numbers := make([]exact.Number, len(p.places))
	numbers[actuator] = height
	return writeNumbers(p.command(numbers))
}

// Clip returns the command whose numbers are limited one by one.
func Clip(m Mirror, target []api.Rat) ([]api.Rat, api.Errno) {
	p, numbers, e := readTarget(m, target)
	if e != api.OK {
		return nil, e
	}
	for i := range p.free() {
		numbers[i] = numbers[i].Within(p.stroke.Neg(), p.stroke)
	}
	return writeNumbers(p.command(numbers))
}

// Far returns the squared distance of two lists of numbers, over the free actuators.
func Far(m Mirror, a, b []api.Rat) (api.Rat, api.Errno) {
	p, x, e := readTarget(m, a)
	if e != api.OK {
		return "", e
	}
	y, e := p.readNumbers(b)
	if e != api.OK {
		return "", e
	}
	var squares []exact.Number
	for i := range p.free() {
		squares = append(squares, x[i].Sub(y[i]).Square())
	}
	return total.Of(squares, exact.Number.Add).Rat()
}

// Saturated returns the actuators and the links that are at a limit.
func Saturated(m Mirror, c []api.Rat) ([]int, []int, api.Errno) {
	p, e := readMirror(m)
	if e != api.OK {
		return nil, nil, e
	}
	numbers, e := p.readCommand(c)
	if e != api.OK {
		return nil, nil, e
	}
	var actuators, links []int
	for i := range p.free() {
		if numbers[i].Abs().Compare(p.stroke) == 0 {
			actuators = append(actuators, i)
		}
	}
	for k, link := range p.links {
		if difference(numbers, link).Abs().Compare(p.gap) == 0 {
			links = append(links, k)
		}
	}
	return actuators, links, api.OK
}

// Blend returns a command between two commands.
func Blend(m Mirror, a, b []api.Rat, part api.Rat) ([]api.Rat, api.Errno) {
	p, e := readMirror(m)
	if e != api.OK {
		return nil, e
	}
	x, wrongA := p.readCommand(a)
	y, wrongB := p.readCommand(b)
	share, wrongPart := readPart(part)
	if e := check.First(wrongA, wrongB, wrongPart); e != api.OK {
		return nil, e
	}
	rest := exact.Of(1, 1).Sub(share)
	blend := make([]exact.Number, len(x))
	for i := range blend {
		blend[i] = rest.Mul(x[i]).Add(share.Mul(y[i]))
	}
	return writeNumbers(blend)
}

// readPart returns a number from 0 to 1, or its first error.
func readPart(part api.Rat) (exact.Number, api.Errno) {
	x, e := exact.Parse(part)
	return x, check.First(e, check.If(x.Sign() < 0 || x.Compare(exact.Of(1, 1)) > 0, api.ErrRange))
}

// Waffle returns the command of alternating signs along the links.
func Waffle(m Mirror, by api.Rat) ([]api.Rat, api.Errno) {
	p, e := readMirror(m)
	if e != api.OK {
		return nil, e
	}
	height, e := exact.Parse(by)
	if e != api.OK {
		return nil, e
	}
	numbers := make([]exact.Number, len(p.places))
	for _, s := range p.beginnings() {
		p.alternate(numbers, s, height)
	}
	return writeNumbers(p.command(numbers))
}

// alternate sets a number to which a step leads, and its opposites along the links.
func (p plate) alternate(numbers []exact.Number, s step, height exact.Number) {
	numbers[s.to] = height
	for _, next := range p.onward(s) {
		p.alternate(numbers, next, height.Neg())
	}
}
