package loop

import (
	"lenslet/api"
	"lenslet/check"
	"lenslet/exact"
	"lenslet/total"
	"lenslet/whole"
)

// columns are the numbers of a row of a companion matrix, or of its powers.
type columns [api.MaxOrder]whole.Int

// row is a row of a matrix whose numbers have a common denominator.
type row struct {
	above columns
	below whole.Int
}

// lastRow returns the last row of the companion matrix of a polynomial.
func lastRow(p []exact.Number) row {
	degree := len(p) - 1
	quotients := make([]exact.Number, degree)
	for k, a := range terms(p[:degree]) {
		quotients[k] = a.Quo(p[degree]).Neg()
	}
	r := row{below: exact.Common(quotients)}
	for k, x := range quotients {
		r.above[k] = multiple(x, r.below)
	}
	return r
}

// times returns a row times the companion matrix of a degree with a last row.
func (r row) times(degree int, last row) row {
	product := row{below: r.below.Mul(last.below)}
	for k := range degree {
		product.above[k] = r.above[degree-1].Mul(last.above[k])
		if k > 0 {
			product.above[k] = product.above[k].Add(r.above[k-1].Mul(last.below))
		}
	}
	return product
}

// norm returns the sum of the magnitudes of the numbers of a row.
func (r row) norm() exact.Number {
	sizes := r.above
	for k, x := range sizes {
		sizes[k] = x.Abs()
	}
	return exact.New(total.Of(sizes[:], whole.Int.Add), r.below)
}

// power returns the rows of a power of a companion matrix.
func power(p []exact.Number, n int) []row {
	degree, last := len(p)-1, lastRow(p)
	rows := make([]row, degree)
	for i := range rows {
		rows[i].above[i], rows[i].below = whole.Of(1), whole.Of(1)
	}
	// But for the last row, each row times the matrix is the row below it.
	for range n {
		rows = append(rows[1:], rows[degree-1].times(degree, last))
	}
	return rows
}

// Decay returns the norm of a power of the companion matrix of a polynomial.
func Decay(p []api.Rat, n int) (api.Rat, api.Errno) {
	coefficients, wrongP := readPoly(p)
	e := check.First(wrongP, check.Range(n, 0, MaxPower), check.If(len(p) == 1, api.ErrNone))
	if e != api.OK {
		return "", e
	}
	var norm exact.Number
	for _, r := range power(coefficients, n) {
		if sum := r.norm(); sum.Compare(norm) > 0 {
			norm = sum
		}
	}
	return norm.Rat()
}
