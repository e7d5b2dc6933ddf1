package span

import (
	"lenslet/api"
	"lenslet/check"
)

// Box is the set of the complex numbers whose parts are in two spans.
type Box struct {
	Re, Im Span
}

// ParseBox returns the box that a box of strings stands for, or its first error.
func ParseBox(b api.Box) (Box, api.Errno) {
	re, wrongRe := Parse(b.Re)
	im, wrongIm := Parse(b.Im)
	if e := check.First(wrongRe, wrongIm); e != api.OK {
		return Box{}, e
	}
	return Box{re, im}, api.OK
}

// Box returns the strings of a box, or ErrLarge if a number of them has too many digits.
func (b Box) Box() (api.Box, api.Errno) {
	re, wrongRe := b.Re.Span()
	im, wrongIm := b.Im.Span()
	if e := check.First(wrongRe, wrongIm); e != api.OK {
		return api.Box{}, e
	}
	return api.Box{Re: re, Im: im}, api.OK
}

// Plus returns the sum of two boxes.
func (b Box) Plus(other Box) Box { return Box{b.Re.Plus(other.Re), b.Im.Plus(other.Im)} }

// Minus returns the difference of two boxes.
func (b Box) Minus(other Box) Box { return Box{b.Re.Minus(other.Re), b.Im.Minus(other.Im)} }

// Times returns the product of two boxes.
func (b Box) Times(other Box) Box {
	return Box{
		b.Re.Times(other.Re).Minus(b.Im.Times(other.Im)),
		b.Re.Times(other.Im).Plus(b.Im.Times(other.Re)),
	}
}

// Conjugate returns the conjugates of the members of a box.
func (b Box) Conjugate() Box { return Box{b.Re, Span{b.Im.High.Neg(), b.Im.Low.Neg()}} }

// Norm returns the span of the squared magnitudes.
func (b Box) Norm() Span { return b.Re.Square().Plus(b.Im.Square()) }
