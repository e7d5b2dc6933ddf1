package sensor

import (
	"lenslet/api"
	"lenslet/check"
	"lenslet/grid"
	"lenslet/sample"
	"lenslet/total"
	"lenslet/whole"
)

// correlation returns the correlation of a subaperture with a template that is shifted by columns
// and rows.
func (c counts) correlation(template counts, shift grid.Cell) whole.Int {
	side := len(c)
	var products []whole.Int
	for p := range grid.Cells(side, side) {
		from := p.Minus(shift)
		if min(from.Column, from.Row) >= 0 && max(from.Column, from.Row) < side {
			products = append(products, c.at(p).Mul(template.at(from)))
		}
	}
	return total.Of(products, whole.Int.Add)
}

// shifts returns all shifts up to a number, by rows and then by columns.
func shifts(most int) []grid.Cell {
	var list []grid.Cell
	for p := range grid.Cells(2*most+1, 2*most+1) {
		list = append(list, p.Minus(grid.At(most, most)))
	}
	return list
}

// bestShift returns the first one of the shifts with the greatest correlation.
func (c counts) bestShift(template counts, list []grid.Cell) grid.Cell {
	correlations := make([]whole.Int, len(list))
	for k, shift := range list {
		correlations[k] = c.correlation(template, shift)
	}
	var best grid.Cell
search:
	for k, correlation := range correlations {
		for _, other := range correlations {
			if other.Compare(correlation) > 0 {
				continue search
			}
		}
		best = list[k]
		break search
	}
	return best
}

// readTemplate returns the counts of a template, or its first error.
func readTemplate(template [][]float32, side int) (counts, api.Errno) {
	if len(template) != side {
		return nil, api.ErrShape
	}
	return check.Rows(template, side, sample.Units)
}

// Correlated returns the whole shift by which a template fits best behind each lenslet.
func Correlated(g Geometry, frame, template [][]float32, most int) ([][2]int, api.Errno) {
	parts, wrongFrame := readSubapertures(g, frame)
	pattern, wrongTemplate := readTemplate(template, g.Side)
	e := check.First(wrongFrame, wrongTemplate, check.Range(most, 0, MaxShift))
	if e != api.OK {
		return nil, e
	}
	list := shifts(most)
	found := make([][2]int, len(parts))
	for k, part := range parts {
		best := part.bestShift(pattern, list)
		found[k] = [2]int{best.Column, best.Row}
	}
	return found, api.OK
}
