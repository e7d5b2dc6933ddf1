package sensor

import (
	"lenslet/api"
	"lenslet/check"
	"lenslet/sample"
	"lenslet/total"
	"lenslet/whole"
)

// correlation returns the correlation of a subaperture with a template that is shifted by columns
// and rows.
func (c counts) correlation(template counts, shift pixel) whole.Int {
	side := len(c)
	var products []whole.Int
	for p := range pixels(side, side) {
		from := pixel{p.column - shift.column, p.row - shift.row}
		if min(from.column, from.row) >= 0 && max(from.column, from.row) < side {
			products = append(products, c.at(p).Mul(template.at(from)))
		}
	}
	return total.Of(products, whole.Int.Add)
}

// shifts returns all shifts up to a number, by rows and then by columns.
func shifts(most int) []pixel {
	var list []pixel
	for p := range pixels(2*most+1, 2*most+1) {
		list = append(list, pixel{p.column - most, p.row - most})
	}
	return list
}

// bestShift returns the first one of the shifts with the greatest correlation.
func (c counts) bestShift(template counts, list []pixel) pixel {
	correlations := make([]whole.Int, len(list))
	for k, shift := range list {
		correlations[k] = c.correlation(template, shift)
	}
	var best pixel
search:
	for k, correlation := range correlations {
		for _, other := range correlations {
			if other.Compare(correlation) > 0 {
				continue search
			}
		}
		best = list[k]
		break search
	}
	return best
}

// readTemplate returns the counts of a template, or its first error.
func readTemplate(template [][]float32, side int) (counts, api.Errno) {
	if len(template) != side {
		return nil, api.ErrShape
	}
	return readRows(template, side, sample.Units)
}

// Correlated returns the whole shift by which a template fits best behind each lenslet.
func Correlated(g Geometry, frame, template [][]float32, most int) ([][2]int, api.Errno) {
	parts, wrongFrame := readSubapertures(g, frame)
	pattern, wrongTemplate := readTemplate(template, g.Side)
	e := check.First(wrongFrame, wrongTemplate, check.If(most < 0 || most > MaxShift, api.ErrRange))
	if e != api.OK {
		return nil, e
	}
	list := shifts(most)
	found := make([][2]int, len(parts))
	for k, part := range parts {
		best := part.bestShift(pattern, list)
		found[k] = [2]int{best.column, best.row}
	}
	return found, api.OK
}
