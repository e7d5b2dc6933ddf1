package sky

import (
	"lenslet/api"
	"lenslet/check"
	"lenslet/exact"
	"lenslet/grid"
	"lenslet/place"
	"lenslet/total"
	"lenslet/whole"
)

// share is a cell of a screen, and its weight in an interpolated value.
type share struct {
	cell   grid.Cell
	weight exact.Number
}

// write returns a share with strings, or ErrLarge.
func (s share) write() (Share, api.Errno) {
	weight, e := s.weight.Rat()
	return Share{s.cell.Column, s.cell.Row, weight}, e
}

// split returns the integer part of a coordinate, modulo a side, and its fraction.
func split(coordinate exact.Number, side int) (int, exact.Number) {
	floor := coordinate.Floor()
	_, rest := floor.QuoRem(whole.Of(side))
	part, _ := rest.Int64() // it is less than the side
	return wrapped(int(part), side), coordinate.Sub(exact.Whole(floor))
}

// around returns the four cells of the interpolation at a place, with their weights.
func (s square) around(at place.Place) [4]share {
	column, right := split(at.X, s.side())
	row, up := split(at.Y, s.side())
	left, down := exact.Of(1, 1).Sub(right), exact.Of(1, 1).Sub(up)
	nextColumn, nextRow := wrapped(column+1, s.side()), wrapped(row+1, s.side())
	return [4]share{
		{grid.At(column, row), left.Mul(down)},
		{grid.At(nextColumn, row), right.Mul(down)},
		{grid.At(column, nextRow), left.Mul(up)},
		{grid.At(nextColumn, nextRow), right.Mul(up)},
	}
}

// valueAt returns the value at a place.
func (s square) valueAt(at place.Place) exact.Number {
	var parts [4]exact.Number
	for k, share := range s.around(at) {
		parts[k] = share.weight.Mul(exact.Of(s.at(share.cell), 1))
	}
	return total.Of(parts[:], exact.Number.Add)
}

// ray leads from a place of the pupil to a star, at a frame.
type ray struct {
	to    star
	from  place.Place
	frame int
}

// readRay returns a ray as numbers, or the first error of the star, the place and the frame.
func readRay(s Star, at api.Place, frame int) (ray, api.Errno) {
	to, wrongStar := readStar(s)
	from, wrongPlace := place.Parse(at)
	return ray{to, from, frame}, check.First(wrongStar, wrongPlace, checkFrame(frame))
}

// position returns where a ray passes a layer that is below its star, in cells.
func (r ray) position(l layer) place.Place {
	return r.to.footprint(l.height, r.from).Times(l.scale).Plus(l.after(r.frame))
}

// phase returns the sum of the phases of the layers below the star of a ray.
func (r ray) phase(layers ...layer) exact.Number {
	var phases []exact.Number
	for _, l := range layers {
		if r.to.isAbove(l.height) {
			phases = append(phases, l.strength.Mul(l.screen.valueAt(r.position(l))))
		}
	}
	return total.Of(phases, exact.Number.Add)
}

// readMeeting returns a layer and a ray that passes it, or their first error.
func readMeeting(l Layer, s Star, at api.Place, frame int) (layer, ray, api.Errno) {
	met, wrongLayer := readLayer(l)
	r, wrongRay := readRay(s, at, frame)
	e := check.First(wrongLayer, wrongRay, check.If(!r.to.isAbove(met.height), api.ErrOutside))
	return met, r, e
}

// Position returns where a ray passes a screen, in cells.
func Position(l Layer, s Star, at api.Place, frame int) (api.Place, api.Errno) {
	met, r, e := readMeeting(l, s, at, frame)
	if e != api.OK {
		return api.Place{}, e
	}
	return r.position(met).Place()
}

// Shares returns the cells of a screen that a ray meets, with their weights.
func Shares(l Layer, s Star, at api.Place, frame int) ([4]Share, api.Errno) {
	met, r, e := readMeeting(l, s, at, frame)
	if e != api.OK {
		return [4]Share{}, e
	}
	var shares [4]Share
	for k, share := range met.screen.around(r.position(met)) {
		if shares[k], e = share.write(); e != api.OK {
			return [4]Share{}, e
		}
	}
	return shares, api.OK
}

// LayerPhase returns the phase of one layer.
func LayerPhase(l Layer, s Star, at api.Place, frame int) (api.Rat, api.Errno) {
	met, r, e := readMeeting(l, s, at, frame)
	if e != api.OK {
		return "", e
	}
	return r.phase(met).Rat()
}

// Phase returns the phase of all layers below a star.
func Phase(layers []Layer, s Star, at api.Place, frame int) (api.Rat, api.Errno) {
	met, wrongLayers := readLayers(layers)
	r, wrongRay := readRay(s, at, frame)
	if e := check.First(wrongLayers, wrongRay); e != api.OK {
		return "", e
	}
	return r.phase(met...).Rat()
}

// Phases returns the phases at several places.
func Phases(layers []Layer, s Star, places []api.Place, frame int) ([]api.Rat, api.Errno) {
	met, wrongLayers := readLayers(layers)
	to, wrongStar := readStar(s)
	all, wrongPlaces := readPlaces(places)
	if e := check.First(wrongLayers, wrongStar, wrongPlaces, checkFrame(frame)); e != api.OK {
		return nil, e
	}
	return check.Each(all, func(from place.Place) (api.Rat, api.Errno) {
		return ray{to, from, frame}.phase(met...).Rat()
	})
}

// Value returns the value of a screen at a place, by bilinear interpolation.
func Value(s [][]int, at api.Place) (api.Rat, api.Errno) {
	values, wrongScreen := readScreen(s)
	where, wrongPlace := place.Parse(at)
	if e := check.First(wrongScreen, wrongPlace); e != api.OK {
		return "", e
	}
	return values.valueAt(where).Rat()
}
