package sensor

import (
	"slices"

	"lenslet/api"
	"lenslet/check"
	"lenslet/exact"
	"lenslet/grid"
	"lenslet/number"
	"lenslet/total"
)

// Images returns the intensities of the four images of a pyramid.
func Images(phases [][]int) ([4][][]api.Rat, api.Errno) {
	if e := checkSide(len(phases), 2, 4); e != api.OK {
		return [4][][]api.Rat{}, e
	}
	field, e := Field(phases)
	if e != api.OK {
		return [4][][]api.Rat{}, e
	}
	transform, e := Transform(field)
	if e != api.OK {
		return [4][][]api.Rat{}, e
	}
	var images [4][][]api.Rat
	for q := range images {
		if images[q], e = image(transform, grid.At(q%2, q/2)); e != api.OK {
			return [4][][]api.Rat{}, e
		}
	}
	return images, api.OK
}

// image returns the image of a quadrant of a transform.
func image(transform [][]complex64, quadrant grid.Cell) ([][]api.Rat, api.Errno) {
	n := len(transform)
	all := make([][]api.Rat, n)
	for p := range grid.Cells(n, n) {
		intensity, e := number.Of(brightness(transform, quadrant, p), n*n*n*n)
		if e != api.OK {
			return nil, e
		}
		all[p.Row] = append(all[p.Row], intensity)
	}
	return all, api.OK
}

// brightness returns the squared magnitude of the sum of the values in a quadrant of a transform,
// each turned back, at a pixel. The parts of all values are small integers, with which floats
// compute exactly.
func brightness(transform [][]complex64, quadrant, p grid.Cell) int {
	n := len(transform)
	half := n / 2
	var sum complex64
	for step := range grid.Cells(half, half) {
		at := grid.At(quadrant.Column*half+step.Column, quadrant.Row*half+step.Row)
		turns := (p.Row*at.Row + p.Column*at.Column) * 4 / n
		sum += transform[at.Row][at.Column] * quarter(turns)
	}
	re, im := int(real(sum)), int(imag(sum))
	return re*re + im*im
}

// readImages returns the numbers of images, or their first error.
func readImages(images [4][][]api.Rat) ([4][][]exact.Number, api.Errno) {
	var all [4][][]exact.Number
	n := len(images[0])
	if e := checkSide(n, 2, 4, MaxField); e != api.OK {
		return all, e
	}
	for k, rows := range images {
		if len(rows) != n {
			return all, api.ErrShape
		}
		numbers, e := check.Rows(rows, n, exact.Parse)
		if e != api.OK {
			return all, e
		}
		all[k] = numbers
	}
	return all, api.OK
}

// Signals returns the signals of the four images of a pyramid.
func Signals(images [4][][]api.Rat) ([][][2]api.Rat, api.Errno) {
	all, e := readImages(images)
	if e != api.OK {
		return nil, e
	}
	n := len(all[0])
	numbers := slices.Concat(slices.Concat(all[:]...)...)
	mean := total.Of(numbers, exact.Number.Add).Quo(exact.Of(n*n, 1))
	if mean.Sign() == 0 {
		return nil, api.ErrZero
	}
	signals := make([][][2]api.Rat, n)
	for p := range grid.Cells(n, n) {
		first, second := all[0][p.Row][p.Column], all[1][p.Row][p.Column]
		third, fourth := all[2][p.Row][p.Column], all[3][p.Row][p.Column]
		byColumns, wrongColumns := first.Add(third).Sub(second).Sub(fourth).Quo(mean).Rat()
		byRows, wrongRows := first.Add(second).Sub(third).Sub(fourth).Quo(mean).Rat()
		if e := check.First(wrongColumns, wrongRows); e != api.OK {
			return nil, e
		}
		signals[p.Row] = append(signals[p.Row], [2]api.Rat{byColumns, byRows})
	}
	return signals, api.OK
}
