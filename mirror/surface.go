package mirror

import (
	"lenslet/api"
	"lenslet/check"
	"lenslet/exact"
	"lenslet/linear"
	"lenslet/place"
)

// Plane is a plane: its value at 0, 0, and its slopes.
type Plane struct {
	Piston api.Rat
	Tip    api.Rat
	Tilt   api.Rat
}

// readPlaces returns places, or their first error.
func readPlaces(at []api.Place) ([]place.Place, api.Errno) {
	return check.AtMost(at, MaxPlaces, place.Parse)
}

// influence returns the influence of an actuator at a place.
func (p plate) influence(actuator int, at place.Place) exact.Number {
	way := at.Minus(p.places[actuator])
	square := way.X.Square().Add(way.Y.Square())
	if square.Compare(p.reach) >= 0 {
		return exact.Number{}
	}
	return exact.Of(1, 1).Sub(square.Quo(p.reach)).Square()
}

// influences returns the influence of each actuator at a place.
func (p plate) influences(at place.Place) []exact.Number {
	list := make([]exact.Number, len(p.places))
	for i := range list {
		list[i] = p.influence(i, at)
	}
	return list
}

// Influence returns the influence of an actuator at a place.
func Influence(m Mirror, actuator int, at api.Place) (api.Rat, api.Errno) {
	p, wrongMirror := readMirror(m)
	where, wrongPlace := place.Parse(at)
	e := check.First(wrongMirror, check.If(!m.has(actuator), api.ErrUnknown), wrongPlace)
	if e != api.OK {
		return "", e
	}
	return p.influence(actuator, where).Rat()
}

// Matrix returns the influences of the free actuators at places.
func Matrix(m Mirror, at []api.Place) ([][]api.Rat, api.Errno) {
	p, wrongMirror := readMirror(m)
	places, wrongPlaces := readPlaces(at)
	if e := check.First(wrongMirror, wrongPlaces); e != api.OK {
		return nil, e
	}
	return check.Each(places, func(where place.Place) ([]api.Rat, api.Errno) {
		list := p.influences(where)
		for slave, master := range p.masters {
			list[master] = list[master].Add(list[slave])
		}
		var row []exact.Number
		for i := range p.free() {
			row = append(row, list[i])
		}
		return writeNumbers(row)
	})
}

// Surface returns the surface of a command at places.
func Surface(m Mirror, c []api.Rat, at []api.Place) ([]api.Rat, api.Errno) {
	p, e := readMirror(m)
	if e != api.OK {
		return nil, e
	}
	numbers, wrongCommand := p.readCommand(c)
	places, wrongPlaces := readPlaces(at)
	if e := check.First(wrongCommand, wrongPlaces); e != api.OK {
		return nil, e
	}
	return check.Each(places, func(where place.Place) (api.Rat, api.Errno) {
		return linear.Product(numbers, p.influences(where)).Rat()
	})
}

// plane is a plane whose numbers have been read.
type plane struct {
	piston, tip, tilt exact.Number
}

// readPlane returns a plane, or its first error.
func readPlane(p Plane) (plane, api.Errno) {
	piston, wrongPiston := exact.Parse(p.Piston)
	tip, wrongTip := exact.Parse(p.Tip)
	tilt, wrongTilt := exact.Parse(p.Tilt)
	return plane{piston, tip, tilt}, check.First(wrongPiston, wrongTip, wrongTilt)
}

// write returns a plane with strings, or ErrLarge.
func (p plane) write() (Plane, api.Errno) {
	piston, wrongPiston := p.piston.Rat()
	tip, wrongTip := p.tip.Rat()
	tilt, wrongTilt := p.tilt.Rat()
	return Plane{piston, tip, tilt}, check.First(wrongPiston, wrongTip, wrongTilt)
}

// at returns the value of a plane at a place.
func (p plane) at(where place.Place) exact.Number {
	return p.piston.Add(p.tip.Mul(where.X)).Add(p.tilt.Mul(where.Y))
}

// PlaneAt returns the value of a plane at a place.
func PlaneAt(p Plane, at api.Place) (api.Rat, api.Errno) {
	flat, wrongPlane := readPlane(p)
	where, wrongPlace := place.Parse(at)
	if e := check.First(wrongPlane, wrongPlace); e != api.OK {
		return "", e
	}
	return flat.at(where).Rat()
}

// planeOf returns the plane of numbers, and whether there is a single one.
func (p plate) planeOf(numbers []exact.Number) (plane, bool) {
	var ones, xs, ys, heights []exact.Number
	for i := range p.free() {
		ones = append(ones, exact.Of(1, 1))
		xs, ys = append(xs, p.places[i].X), append(ys, p.places[i].Y)
		heights = append(heights, numbers[i])
	}
	unit := toIntegers(heights)
	columns := [][]exact.Number{ones, xs, ys}
	var units, right []exact.Number
	for _, column := range columns {
		units = append(units, toIntegers(column))
		right = append(right, linear.Product(column, heights))
	}
	equations := make([][]exact.Number, len(columns))
	for k, column := range columns {
		for _, other := range columns {
			equations[k] = append(equations[k], linear.Product(column, other))
		}
	}
	solution, single := linear.Solve(equations, right)
	if !single {
		return plane{}, false
	}
	for k := range solution {
		solution[k] = solution[k].Mul(units[k]).Quo(unit)
	}
	return plane{solution[0], solution[1], solution[2]}, true
}

// toIntegers multiplies numbers by their least common denominator, and returns it. Sums of integers
// are faster than sums of numbers with many denominators.
func toIntegers(list []exact.Number) exact.Number {
	unit := exact.Whole(exact.Common(list))
	for i, x := range list {
		list[i] = x.Mul(unit)
	}
	return unit
}

// Offload returns a command without its plane, and the plane.
func Offload(m Mirror, c []api.Rat) ([]api.Rat, Plane, api.Errno) {
	p, numbers, e := readTarget(m, c)
	if e != api.OK {
		return nil, Plane{}, e
	}
	flat, single := p.planeOf(numbers)
	if !single {
		return nil, Plane{}, api.ErrSingular
	}
	written, e := flat.write()
	if e != api.OK { // before the rest is computed with so large a number
		return nil, Plane{}, e
	}
	for i, at := range p.places {
		numbers[i] = numbers[i].Sub(flat.at(at))
	}
	rest, e := writeNumbers(numbers)
	if e != api.OK {
		return nil, Plane{}, e
	}
	return rest, written, api.OK
}
