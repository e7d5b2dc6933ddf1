package number

import (
	"lenslet/api"
	"lenslet/check"
	"lenslet/exact"
	"lenslet/sample"
)

// Exact returns the exact value of a float32.
func Exact(f float32) (api.Rat, api.Errno) {
	units, e := sample.Units(f)
	if e != api.OK {
		return "", e
	}
	return sample.Number(units).Rat()
}

// Float returns the nearest float32 to a number.
func Float(a api.Rat) (float32, api.Errno) {
	x, e := exact.Parse(a)
	if e != api.OK {
		return 0, e
	}
	return sample.Nearest(x)
}

// CheckSamples returns the first error of samples, or OK.
func CheckSamples(l []float32) api.Errno {
	_, e := check.AtMost(l, api.MaxSamples, sample.Units)
	return e
}
