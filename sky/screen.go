package sky

import (
	"iter"

	"lenslet/api"
	"lenslet/check"
	"lenslet/draw"
	"lenslet/exact"
	"lenslet/grid"
	"lenslet/number"
	"lenslet/total"
)

// square is rows of integers, as many as there are rows.
type square [][]int

// readSquare returns a copy of a square of integers up to a greatest magnitude, or its first error.
func readSquare(rows [][]int, greatest int) (square, api.Errno) {
	return check.Rows(rows, len(rows), func(value int) (int, api.Errno) {
		return value, check.Range(value, -greatest, greatest)
	})
}

// readScreen returns a copy of a screen, or its first error.
func readScreen(s [][]int) (square, api.Errno) {
	if e := check.Count(len(s), api.MaxSide); e != api.OK {
		return nil, e
	}
	return readSquare(s, MaxValue)
}

// readKernel returns a copy of a kernel, or its first error.
func readKernel(kernel [][]int) (square, api.Errno) {
	n := len(kernel)
	if e := check.First(check.Count(n, MaxKernel), check.If(n%2 == 0, api.ErrShape)); e != api.OK {
		return nil, e
	}
	return readSquare(kernel, MaxFactor)
}

// side returns the number of rows.
func (s square) side() int { return len(s) }

// cells visits the cells of a square row by row.
func (s square) cells() iter.Seq[grid.Cell] { return grid.Cells(s.side(), s.side()) }

// wrapped returns an integer modulo a divisor, from 0 on.
func wrapped(n, divisor int) int { return (n%divisor + divisor) % divisor }

// at returns the value of a cell, also of one beyond the side of the periodic square.
func (s square) at(c grid.Cell) int {
	return s[wrapped(c.Row, s.side())][wrapped(c.Column, s.side())]
}

// mean returns the mean of what a function makes of each cell.
func (s square) mean(value func(grid.Cell) int) exact.Number {
	var sum int
	for c := range s.cells() {
		sum += value(c)
	}
	return exact.Of(sum, s.side()*s.side())
}

// made returns the rows of what a function makes of each cell of a square with a side, or its first error.
func made[T any](side int, value func(grid.Cell) (T, api.Errno)) ([][]T, api.Errno) {
	rows := make([][]T, side)
	for c := range grid.Cells(side, side) {
		v, e := value(c)
		if e != api.OK {
			return nil, e
		}
		rows[c.Row] = append(rows[c.Row], v)
	}
	return rows, api.OK
}

// CheckScreen returns the first error of a screen, or OK.
func CheckScreen(s [][]int) api.Errno {
	_, e := readScreen(s)
	return e
}

// readWeights returns the sum of the weights of the values of a drawn screen, or their first error.
func readWeights(weights []int) (int, api.Errno) {
	n := len(weights)
	if e := check.First(check.Count(n, MaxWeights), check.If(n%2 == 0, api.ErrShape)); e != api.OK {
		return 0, e
	}
	all, e := check.Each(weights, func(weight int) (int, api.Errno) {
		return weight, check.Range(weight, 0, MaxWeight)
	})
	sum := total.Of(all, func(a, b int) int { return a + b })
	return sum, check.First(e, check.If(sum == 0, api.ErrZero))
}

// Drawn returns a screen that is drawn by a key, with weights of its values.
func Drawn(key, side int, weights []int) ([][]int, api.Errno) {
	sum, wrongWeights := readWeights(weights)
	e := check.First(check.Range(key, 1, draw.MaxKey), check.Range(side, 1, api.MaxSide), wrongWeights)
	if e != api.OK {
		return nil, e
	}
	x := key
	rows := make([][]int, side)
cells:
	for c := range grid.Cells(side, side) {
		x = draw.Next(x)
		left := x % sum
		for i, weight := range weights {
			if left < weight {
				rows[c.Row] = append(rows[c.Row], i-len(weights)/2)
				continue cells
			}
			left -= weight
		}
	}
	return rows, api.OK
}

// Smooth returns a screen that is convolved with a kernel.
func Smooth(s, kernel [][]int) ([][]int, api.Errno) {
	values, wrongScreen := readScreen(s)
	factors, wrongKernel := readKernel(kernel)
	if e := check.First(wrongScreen, wrongKernel); e != api.OK {
		return nil, e
	}
	half := factors.side() / 2
	middle := grid.At(half, half)
	return made(values.side(), func(c grid.Cell) (int, api.Errno) {
		var sum int
		for k := range factors.cells() {
			sum += factors.at(k) * values.at(c.Plus(k).Minus(middle))
		}
		return sum, check.If(sum < -MaxValue || sum > MaxValue, api.ErrLarge)
	})
}

// Shift returns a screen that is moved by whole cells.
func Shift(s [][]int, columns, rows int) ([][]int, api.Errno) {
	values, wrongScreen := readScreen(s)
	if e := check.First(wrongScreen, checkFrame(columns), checkFrame(rows)); e != api.OK {
		return nil, e
	}
	by := grid.At(columns, rows)
	return made(values.side(), func(c grid.Cell) (int, api.Errno) { return values.at(c.Minus(by)), api.OK })
}

// Mean returns the mean of a screen.
func Mean(s [][]int) (api.Rat, api.Errno) {
	values, e := readScreen(s)
	if e != api.OK {
		return "", e
	}
	return values.mean(values.at).Rat()
}

// Variance returns the variance of a screen.
func Variance(s [][]int) (api.Rat, api.Errno) {
	values, e := readScreen(s)
	if e != api.OK {
		return "", e
	}
	squares := values.mean(func(c grid.Cell) int { return values.at(c) * values.at(c) })
	return squares.Sub(values.mean(values.at).Square()).Rat()
}

// Structure returns the structure function of a screen.
func Structure(s [][]int, columns, rows int) (api.Rat, api.Errno) {
	values, wrongScreen := readScreen(s)
	if e := check.First(wrongScreen, checkFrame(columns), checkFrame(rows)); e != api.OK {
		return "", e
	}
	by := grid.At(columns, rows)
	squares := values.mean(func(c grid.Cell) int {
		difference := values.at(c.Plus(by)) - values.at(c)
		return difference * difference
	})
	return squares.Rat()
}

// Floats returns the phases of a screen as float32 values.
func Floats(s [][]int, strength api.Rat) ([][]float32, api.Errno) {
	values, wrongScreen := readScreen(s)
	factor, wrongStrength := exact.Parse(strength)
	if e := check.First(wrongScreen, wrongStrength); e != api.OK {
		return nil, e
	}
	return made(values.side(), func(c grid.Cell) (float32, api.Errno) {
		phase, e := factor.Mul(exact.Of(values.at(c), 1)).Rat()
		if e != api.OK { // as that of number.Float for so many digits
			return 0, e
		}
		return number.Float(phase)
	})
}
