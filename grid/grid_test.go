package grid_test

import (
	"slices"
	"testing"

	"lenslet/grid"
)

func TestCells(t *testing.T) {
	for _, row := range []struct {
		columns, rows int
		wanted        []grid.Cell
	}{
		{2, 3, []grid.Cell{grid.At(0, 0), grid.At(1, 0), grid.At(0, 1), grid.At(1, 1), grid.At(0, 2), grid.At(1, 2)}},
		{1, 1, []grid.Cell{{}}},
		{0, 3, nil},
		{3, 0, nil},
		{-1, -1, nil},
	} {
		if got := slices.Collect(grid.Cells(row.columns, row.rows)); !slices.Equal(got, row.wanted) {
			t.Errorf("Cells of %d columns and %d rows: %v", row.columns, row.rows, got)
		}
	}
	count := 0
	for range grid.Cells(3, 3) {
		if count++; count == 4 { // in the middle of a row
			break
		}
	}
	if count != 4 {
		t.Errorf("%d cells are visited before a break", count)
	}
}

func TestSteps(t *testing.T) {
	c, by := grid.At(2, -3), grid.At(5, 1)
	if got := c.Plus(by); got != grid.At(7, -2) {
		t.Errorf("Plus: %v", got)
	}
	if got := c.Minus(by); got != grid.At(-3, -4) {
		t.Errorf("Minus: %v", got)
	}
}
