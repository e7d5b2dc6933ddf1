package number

import (
	"lenslet/api"
	"lenslet/check"
	"lenslet/span"
)

// operateOnBoxes returns the result of an operation on two boxes.
func operateOnBoxes(a, b api.Box, operation func(x, y span.Box) span.Box) (api.Box, api.Errno) {
	x, wrongA := span.ParseBox(a)
	y, wrongB := span.ParseBox(b)
	if e := check.First(wrongA, wrongB); e != api.OK {
		return api.Box{}, e
	}
	return operation(x, y).Box()
}

// CheckBox returns the first error of a box, or OK.
func CheckBox(b api.Box) api.Errno {
	_, e := span.ParseBox(b)
	return e
}

// AddBox returns the sum of two boxes.
func AddBox(a, b api.Box) (api.Box, api.Errno) { return operateOnBoxes(a, b, span.Box.Plus) }

// MulBox returns the product of two boxes.
func MulBox(a, b api.Box) (api.Box, api.Errno) { return operateOnBoxes(a, b, span.Box.Times) }

// Conjugate returns the conjugate of a box.
func Conjugate(a api.Box) (api.Box, api.Errno) {
	x, e := span.ParseBox(a)
	if e != api.OK {
		return api.Box{}, e
	}
	return x.Conjugate().Box()
}

// Norm returns a span that contains the squared magnitudes of a box.
func Norm(a api.Box) (api.Span, api.Errno) {
	x, e := span.ParseBox(a)
	if e != api.OK {
		return api.Span{}, e
	}
	return x.Norm().Span()
}

// Turn returns a box that contains the complex number of magnitude 1 with the angle of a turn.
func Turn(turn api.Rat, decimals int) (api.Box, api.Errno) {
	re, wrongRe := Cos(turn, decimals)
	im, wrongIm := Sin(turn, decimals)
	if e := check.First(wrongRe, wrongIm); e != api.OK {
		return api.Box{}, e
	}
	return api.Box{Re: re, Im: im}, api.OK
}
