// Package grid has the cells of rectangles, such as the pixels of a frame.
package grid

import "iter"

// Cell is a cell, by its column and its row.
type Cell struct {
	Column, Row int
}

// At returns the cell in a column and a row.
func At(column, row int) Cell { return Cell{column, row} }

// Plus returns the cell that is so many columns and rows further as those of another cell say.
func (c Cell) Plus(by Cell) Cell { return Cell{c.Column + by.Column, c.Row + by.Row} }

// Minus returns the cell that is so many columns and rows back as those of another cell say.
func (c Cell) Minus(by Cell) Cell { return Cell{c.Column - by.Column, c.Row - by.Row} }

// Cells visits the cells of so many columns and rows, row by row.
func Cells(columns, rows int) iter.Seq[Cell] {
	return func(yield func(Cell) bool) {
		for row := range rows {
			for column := range columns {
				if !yield(Cell{column, row}) {
					return
				}
			}
		}
	}
}
