// Package place computes with places whose coordinates have any size, without the limits of api.Place.
package place

import (
	"lenslet/api"
	"lenslet/check"
	"lenslet/exact"
)

// Place is a point of the plane of the pupil, or what leads from one point to another.
type Place struct {
	X, Y exact.Number
}

// Parse returns the place that a place of strings stands for, or its first error.
func Parse(at api.Place) (Place, api.Errno) {
	x, wrongX := exact.Parse(at.X)
	y, wrongY := exact.Parse(at.Y)
	if e := check.First(wrongX, wrongY); e != api.OK {
		return Place{}, e
	}
	return Place{x, y}, api.OK
}

// Place returns the strings of a place, or ErrLarge if a coordinate has too many digits.
func (p Place) Place() (api.Place, api.Errno) {
	x, wrongX := p.X.Rat()
	y, wrongY := p.Y.Rat()
	if e := check.First(wrongX, wrongY); e != api.OK {
		return api.Place{}, e
	}
	return api.Place{X: x, Y: y}, api.OK
}

// Plus returns the place whose coordinates are the sums of those of two places.
func (p Place) Plus(q Place) Place { return Place{p.X.Add(q.X), p.Y.Add(q.Y)} }

// Minus returns the place whose coordinates are those of a place less those of another one.
func (p Place) Minus(q Place) Place { return Place{p.X.Sub(q.X), p.Y.Sub(q.Y)} }

// Times returns the place whose coordinates are those of a place times a factor.
func (p Place) Times(factor exact.Number) Place { return Place{p.X.Mul(factor), p.Y.Mul(factor)} }
