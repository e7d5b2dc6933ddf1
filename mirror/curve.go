package mirror

import (
	"slices"

	"lenslet/exact"
)

// line is a straight line: its value at 0, and by how much it rises from there to 1.
type line struct {
	start, rise exact.Number
}

// at returns the value of a line at a number.
func (l line) at(x exact.Number) exact.Number { return l.start.Add(l.rise.Mul(x)) }

// plus returns the sum of two lines.
func (l line) plus(other line) line {
	return line{l.start.Add(other.start), l.rise.Add(other.rise)}
}

// neg returns the line with opposite values.
func (l line) neg() line { return line{l.start.Neg(), l.rise.Neg()} }

// moved returns the line that has its values at numbers that are greater by so much.
func (l line) moved(by exact.Number) line { return line{l.at(by.Neg()), l.rise} }

// knot is a number from which on a line is added.
type knot struct {
	from  exact.Number
	added line
}

// moved returns the knot that is moved with its line.
func (k knot) moved(by exact.Number) knot { return knot{k.from.Add(by), k.added.moved(by)} }

// compare orders knots by their numbers.
func (k knot) compare(other knot) int { return k.from.Compare(other.from) }

// curve is a function that falls nowhere, but may jump: a line, and knots in ascending order.
type curve struct {
	first line
	knots []knot
}

// plus returns the sum of two curves.
func (c curve) plus(other curve) curve {
	knots := slices.Concat(c.knots, other.knots)
	slices.SortFunc(knots, knot.compare)
	return curve{c.first.plus(other.first), knots}
}

// zero returns the number at which a curve that rises everywhere is 0, or jumps over it.
func (c curve) zero() exact.Number {
	current := c.first
	for _, k := range c.knots {
		if current.at(k.from).Sign() >= 0 {
			break
		}
		current = current.plus(k.added)
		if current.at(k.from).Sign() >= 0 {
			return k.from
		}
	}
	return current.start.Quo(current.rise).Neg()
}

// around returns the lines of a curve before and after a number.
func (c curve) around(x exact.Number) (before, after line) {
	before, after = c.first, c.first
	for _, k := range c.knots {
		side := k.from.Compare(x)
		if side < 0 {
			before = before.plus(k.added)
		}
		if side <= 0 {
			after = after.plus(k.added)
		}
	}
	return before, after
}

// jump returns the values of a curve just before and just after a number.
func (c curve) jump(x exact.Number) span {
	before, after := c.around(x)
	return span{before.at(x), after.at(x)}
}

// parted returns the curve whose part below its zero is moved down by a gap, and the part above it
// up, with 0 in between.
func (c curve) parted(zero, gap exact.Number) curve {
	down, up := gap.Neg(), gap
	before, after := c.around(zero)
	wide := curve{first: c.first.moved(down)}
	var above []knot
	for _, k := range c.knots {
		switch k.from.Compare(zero) {
		case -1:
			wide.knots = append(wide.knots, k.moved(down))
		case 1:
			above = append(above, k.moved(up))
		}
	}
	ends := []knot{knot{zero, before.neg()}.moved(down), knot{zero, after}.moved(up)}
	wide.knots = slices.Concat(wide.knots, ends, above)
	return wide
}

// span is the numbers from a least to a greatest one.
type span struct {
	low, high exact.Number
}

// nearest returns the number of a span that is nearest to a number.
func (s span) nearest(x exact.Number) exact.Number { return x.Within(s.low, s.high) }

// shares returns a number of each span, so that they have a certain sum, which is possible. The first
// spans make up what is left when all numbers are as near to 0 as they can be.
func shares(spans []span, sum exact.Number) []exact.Number {
	list := make([]exact.Number, len(spans))
	for k, s := range spans {
		list[k] = s.nearest(exact.Number{})
		sum = sum.Sub(list[k])
	}
	for k, s := range spans {
		share := s.nearest(list[k].Add(sum))
		sum = sum.Sub(share.Sub(list[k]))
		list[k] = share
	}
	return list
}
