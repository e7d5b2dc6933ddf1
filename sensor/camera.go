package sensor

import (
	"lenslet/api"
	"lenslet/check"
	"lenslet/exact"
	"lenslet/grid"
	"lenslet/sample"
	"lenslet/total"
	"lenslet/whole"
)

// Camera is the dark and the flat of a camera, and its bad pixels (column and row).
type Camera struct {
	Dark [][]float32
	Flat [][]float32
	Bad  [][2]int
}

// camera is a camera whose frames have been read.
type camera struct {
	geometry   Geometry
	dark, flat counts
	bad        map[grid.Cell]bool
}

// readCamera returns a camera, or the first error of the geometry and the camera.
func readCamera(g Geometry, c Camera) (camera, api.Errno) {
	dark, wrongDark := readFrame(g, c.Dark)
	flat, wrongFlat := readFrame(g, c.Flat)
	bad, wrongBad := readBad(g, c.Bad)
	e := check.First(wrongDark, wrongFlat, checkFlat(flat), wrongBad)
	return camera{g, dark, flat, bad}, e
}

// checkFlat returns the error of a flat with a count that is not above 0, or OK.
func checkFlat(flat counts) api.Errno {
	for _, row := range flat {
		for _, count := range row {
			if count.Sign() <= 0 {
				return api.ErrZero
			}
		}
	}
	return api.OK
}

// readBad returns the set of the bad pixels, or their first error.
func readBad(g Geometry, bad [][2]int) (map[grid.Cell]bool, api.Errno) {
	if len(bad) > api.MaxList {
		return nil, api.ErrMany
	}
	kept := map[grid.Cell]bool{}
	before := -1
	for _, place := range bad {
		p := grid.At(place[0], place[1])
		index := p.Row*g.width() + p.Column
		e := check.First(
			check.Range(p.Column, 0, g.width()-1),
			check.Range(p.Row, 0, g.height()-1),
			check.If(index <= before, api.ErrOrder),
		)
		if e != api.OK {
			return nil, e
		}
		kept[p] = true
		before = index
	}
	return kept, api.OK
}

// CheckCamera returns the first error of a camera, or OK.
func CheckCamera(g Geometry, c Camera) api.Errno {
	_, e := readCamera(g, c)
	return e
}

// trueCount returns the true count of a pixel of a frame.
func (c camera) trueCount(frame counts, p grid.Cell) exact.Number {
	return exact.New(frame.at(p).Sub(c.dark.at(p)), c.flat.at(p))
}

// goodNeighbours returns the good pixels beside a pixel in its subaperture.
func (c camera) goodNeighbours(p grid.Cell) []grid.Cell {
	corner := c.geometry.corner(p)
	var list []grid.Cell
	for step := range grid.Cells(c.geometry.Side, c.geometry.Side) {
		q := corner.Plus(step)
		way := q.Minus(p)
		if way.Column*way.Column+way.Row*way.Row == 1 && !c.bad[q] {
			list = append(list, q)
		}
	}
	return list
}

// calibrated returns the true count of a good pixel, and the mean of those around a bad one.
func (c camera) calibrated(frame counts, p grid.Cell) exact.Number {
	if !c.bad[p] {
		return c.trueCount(frame, p)
	}
	var around []exact.Number
	for _, q := range c.goodNeighbours(p) {
		around = append(around, c.trueCount(frame, q))
	}
	if len(around) == 0 {
		return exact.Number{}
	}
	return total.Of(around, exact.Number.Add).Quo(exact.Of(len(around), 1))
}

// Calibrated returns a frame without dark, flat and bad pixels.
func Calibrated(g Geometry, c Camera, frame [][]float32) ([][]float32, api.Errno) {
	taken, wrongCamera := readCamera(g, c)
	raw, wrongFrame := readFrame(g, frame)
	if e := check.First(wrongCamera, wrongFrame); e != api.OK {
		return nil, e
	}
	return nearestFrame(g, func(p grid.Cell) exact.Number { return taken.calibrated(raw, p) })
}

// Averaged returns the mean of frames.
func Averaged(g Geometry, frames [][][]float32) ([][]float32, api.Errno) {
	e := check.First(
		CheckGeometry(g),
		check.Count(len(frames), api.MaxFrames),
	)
	if e != api.OK {
		return nil, e
	}
	taken, e := check.Each(frames, func(frame [][]float32) (counts, api.Errno) { return readFrame(g, frame) })
	if e != api.OK {
		return nil, e
	}
	return nearestFrame(g, func(p grid.Cell) exact.Number {
		series := make([]whole.Int, len(taken))
		for k, frame := range taken {
			series[k] = frame.at(p)
		}
		return sample.Number(total.Of(series, whole.Int.Add)).Quo(exact.Of(len(taken), 1))
	})
}
