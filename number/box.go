package number

import (
	"lenslet/api"
	"lenslet/check"
)

// rectangle is a box whose ends may have any number of digits.
type rectangle struct {
	re, im interval
}

// readBox returns a box as a rectangle, or the first error of the box.
func readBox(b api.Box) (rectangle, api.Errno) {
	re, im, e := pairOfSpans(b.Re, b.Im)
	return rectangle{re, im}, e
}

// box returns a rectangle as a box, or ErrLarge.
func (r rectangle) box() (api.Box, api.Errno) {
	re, wrongRe := r.re.span()
	im, wrongIm := r.im.span()
	if e := check.First(wrongRe, wrongIm); e != api.OK {
		return api.Box{}, e
	}
	return api.Box{Re: re, Im: im}, api.OK
}

// operateOnBoxes returns the result of an operation on two boxes.
func operateOnBoxes(a, b api.Box, operation func(x, y rectangle) rectangle) (api.Box, api.Errno) {
	x, wrongA := readBox(a)
	y, wrongB := readBox(b)
	if e := check.First(wrongA, wrongB); e != api.OK {
		return api.Box{}, e
	}
	return operation(x, y).box()
}

// plus returns the sum of two rectangles.
func (r rectangle) plus(other rectangle) rectangle {
	return rectangle{r.re.plus(other.re), r.im.plus(other.im)}
}

// times returns the product of two rectangles.
func (r rectangle) times(other rectangle) rectangle {
	return rectangle{
		r.re.times(other.re).minus(r.im.times(other.im)),
		r.re.times(other.im).plus(r.im.times(other.re)),
	}
}

// CheckBox returns the first error of a box, or OK.
func CheckBox(b api.Box) api.Errno {
	_, e := readBox(b)
	return e
}

// AddBox returns the sum of two boxes.
func AddBox(a, b api.Box) (api.Box, api.Errno) { return operateOnBoxes(a, b, rectangle.plus) }

// MulBox returns the product of two boxes.
func MulBox(a, b api.Box) (api.Box, api.Errno) { return operateOnBoxes(a, b, rectangle.times) }

// Conjugate returns the conjugate of a box.
func Conjugate(a api.Box) (api.Box, api.Errno) {
	r, e := readBox(a)
	if e != api.OK {
		return api.Box{}, e
	}
	return rectangle{r.re, interval{r.im.high.Neg(), r.im.low.Neg()}}.box()
}

// Norm returns a span that contains the squared magnitudes of a box.
func Norm(a api.Box) (api.Span, api.Errno) {
	r, e := readBox(a)
	if e != api.OK {
		return api.Span{}, e
	}
	return r.re.squared().plus(r.im.squared()).span()
}

// Turn returns a box that contains the complex number of magnitude 1 with the angle of a turn.
func Turn(turn api.Rat, decimals int) (api.Box, api.Errno) {
	re, wrongRe := Cos(turn, decimals)
	im, wrongIm := Sin(turn, decimals)
	if e := check.First(wrongRe, wrongIm); e != api.OK {
		return api.Box{}, e
	}
	return api.Box{Re: re, Im: im}, api.OK
}
