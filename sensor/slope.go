package sensor

import (
	"lenslet/api"
	"lenslet/check"
	"lenslet/exact"
	"lenslet/grid"
	"lenslet/number"
)

// readCentroids returns centroids as places, or their first error.
func readCentroids(list [][2]api.Rat) ([]api.Place, api.Errno) {
	return check.AtMost(list, MaxLenslets*MaxLenslets, func(centroid [2]api.Rat) (api.Place, api.Errno) {
		e := check.First(number.Check(centroid[0]), number.Check(centroid[1]))
		return api.Place{X: centroid[0], Y: centroid[1]}, e
	})
}

// slopesOf returns the slopes of a centroid with a reference, or ErrLarge.
func slopesOf(centroid, reference api.Place) ([2]api.Rat, api.Errno) {
	if centroid == reference { // equal numbers are equal strings
		return [2]api.Rat{"0", "0"}, api.OK
	}
	byColumns, wrongColumns := number.Sub(centroid.X, reference.X)
	byRows, wrongRows := number.Sub(centroid.Y, reference.Y)
	return [2]api.Rat{byColumns, byRows}, check.First(wrongColumns, wrongRows)
}

// Slopes returns the slopes of centroids with respect to a reference.
func Slopes(centroids, reference [][2]api.Rat) ([]api.Rat, api.Errno) {
	places, wrongCentroids := readCentroids(centroids)
	origins, wrongReference := readCentroids(reference)
	e := check.First(
		wrongCentroids,
		wrongReference,
		check.If(len(centroids) != len(reference), api.ErrShape),
	)
	if e != api.OK {
		return nil, e
	}
	var slopes []api.Rat
	for k, place := range places {
		pair, e := slopesOf(place, origins[k])
		if e != api.OK {
			return nil, e
		}
		slopes = append(slopes, pair[0], pair[1])
	}
	return slopes, api.OK
}

// spot is the parts that a spot has in each column, and in each row, of its subaperture.
type spot struct {
	columns, rows func(int) exact.Number
}

// readSpot returns the spot at a place in a subaperture with a side, or the first error of the place.
func readSpot(place [2]api.Rat, side int) (spot, api.Errno) {
	x, wrongX := exact.Parse(place[0])
	y, wrongY := exact.Parse(place[1])
	e := check.First(
		wrongX,
		wrongY,
		check.If(outside(x, side) || outside(y, side), api.ErrOutside),
	)
	return spot{parts(x, side), parts(y, side)}, e
}

// outside reports whether a coordinate is beyond the centres of the first and the last pixel.
func outside(coordinate exact.Number, side int) bool {
	last := exact.Of(side-1, 2)
	return coordinate.Compare(last) > 0 || coordinate.Compare(last.Neg()) < 0
}

// parts returns the function that has for each column, or row, the part of a spot at a coordinate.
func parts(coordinate exact.Number, side int) func(int) exact.Number {
	place := coordinate.Add(exact.Of(side-1, 2))
	floor := place.Floor()
	fraction := place.Sub(exact.Whole(floor))
	first, _ := floor.Int64() // it fits for a coordinate that is not outside
	return func(i int) exact.Number {
		switch i {
		case int(first):
			return exact.Of(1, 1).Sub(fraction)
		case int(first) + 1:
			return fraction
		}
		return exact.Number{}
	}
}

// Spots returns the frame with a spot at a place behind each lenslet.
func Spots(g Geometry, places [][2]api.Rat, flux api.Rat) ([][]float32, api.Errno) {
	e := check.First(CheckGeometry(g), check.If(len(places) != g.Columns*g.Rows, api.ErrShape))
	if e != api.OK {
		return nil, e
	}
	spots, wrongPlace := check.Each(places, func(place [2]api.Rat) (spot, api.Errno) { return readSpot(place, g.Side) })
	size, wrongFlux := exact.ParseUnsigned(flux)
	if e := check.First(wrongPlace, wrongFlux); e != api.OK {
		return nil, e
	}
	return nearestFrame(g, func(p grid.Cell) exact.Number {
		s := spots[g.lenslet(p)]
		return s.columns(p.Column % g.Side).Mul(s.rows(p.Row % g.Side)).Mul(size)
	})
}
