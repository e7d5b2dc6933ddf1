package mirror

import (
	"lenslet/api"
	"lenslet/check"
	"lenslet/exact"
	"lenslet/total"
)

// Proof is the forces that hold a command within its limits: one for each actuator, and one for each link.
type Proof struct {
	Actuators []api.Rat
	Links     []api.Rat
}

// forces are a proof whose numbers have been read.
type forces struct {
	actuators, links []exact.Number
}

// readProof returns the forces of a proof, or its first error.
func (p plate) readProof(f Proof) (forces, api.Errno) {
	e := check.First(
		check.If(len(f.Actuators) != len(p.places), api.ErrShape),
		check.If(len(f.Links) != len(p.links), api.ErrShape),
	)
	if e != api.OK {
		return forces{}, e
	}
	actuators, wrongActuators := check.Each(f.Actuators, exact.Parse)
	links, wrongLinks := check.Each(f.Links, exact.Parse)
	return forces{actuators, links}, check.First(wrongActuators, wrongLinks)
}

// along reports whether a number is at the limit, of both signs, that a force presses it to. Without
// a force it may be anywhere.
func along(force, x, limit exact.Number) bool {
	switch force.Sign() {
	case 1:
		return x.Compare(limit) == 0
	case -1:
		return x.Compare(limit.Neg()) == 0
	}
	return true
}

// at returns the sum of the forces at an actuator.
func (f forces) at(i int, links [][2]int) exact.Number {
	list := []exact.Number{f.actuators[i]}
	for k, link := range links {
		switch i {
		case link[0]:
			list = append(list, f.links[k])
		case link[1]:
			list = append(list, f.links[k].Neg())
		}
	}
	return total.Of(list, exact.Number.Add)
}

// proves reports whether forces prove that a command within the limits is the nearest one to a target.
func (p plate) proves(f forces, c, target []exact.Number) bool {
	balanced := func(i int) bool {
		return !p.isFree(i) || target[i].Sub(c[i]).Compare(f.at(i, p.links)) == 0
	}
	pressed := func(i int) bool {
		return f.actuators[i].Sign() == 0 || p.isFree(i) && along(f.actuators[i], c[i], p.stroke)
	}
	for i := range c {
		if !pressed(i) || !balanced(i) {
			return false
		}
	}
	taut := func(k int) bool { return along(f.links[k], difference(c, p.links[k]), p.gap) }
	for k := range p.links {
		if !taut(k) {
			return false
		}
	}
	return true
}

// CheckNearest returns OK if a proof proves that a command is the nearest one.
func CheckNearest(m Mirror, target, c []api.Rat, p Proof) api.Errno {
	mirror, wanted, e := readTarget(m, target)
	if e != api.OK {
		return e
	}
	numbers, wrongCommand := mirror.readCommand(c)
	f, wrongProof := mirror.readProof(p)
	if e := check.First(wrongCommand, wrongProof); e != api.OK {
		return e
	}
	return check.If(!mirror.proves(f, numbers, wanted), api.ErrProof)
}
