package eye

import (
	"slices"

	"strobe/api"
	"strobe/common"
	"strobe/number"
	"strobe/rational"
)

// grid is the value of a Grid.
type grid struct {
	columns, rows int
	low, high     rational.Number
}

// readGrid returns the value of a grid, or its error.
func readGrid(g Grid) (grid, api.Errno) {
	low, errLow := rational.Read(g.Low)
	high, errHigh := rational.Read(g.High)
	errColumns, errRows := common.InRange(g.Columns, 1, MaxColumns), common.InRange(g.Rows, 1, MaxRows)
	errOrder := common.ErrorIf(low.Compare(high) >= 0, api.ErrOrder)
	return grid{g.Columns, g.Rows, low, high}, common.FirstError(errColumns, errRows, errLow, errHigh, errOrder)
}

// contains reports whether a place has a row.
func (g grid) contains(p place) bool {
	return p.value.Compare(g.low) >= 0 && p.value.Compare(g.high) < 0
}

// cell returns the row and the column of a place that has a row.
func (g grid) cell(p place) (int, int) {
	row, _ := p.value.Minus(g.low).Times(rational.Of(g.rows)).FloorOver(g.high.Minus(g.low)).Int()
	column, _ := p.phase.Times(rational.Of(g.columns)).Floor().Int()
	return row, column
}

// counts has a count for each column of each row that a grid may have.
type counts [MaxRows][MaxColumns]int

// cells returns the counts of the rows and columns that a grid has.
func (c *counts) cells(g grid) [][]int {
	rows := make([][]int, g.rows)
	for i := range rows {
		rows[i] = make([]int, g.columns)
		copy(rows[i], c[i][:])
	}
	return rows
}

// CheckGrid returns the first error of a grid, or OK.
func CheckGrid(g Grid) api.Errno {
	_, e := readGrid(g)
	return e
}

// Count returns the eye diagram of samples.
func Count(c Clock, g Grid, samples []float32) (Eye, api.Errno) {
	from, errClock := readClock(c)
	within, errGrid := readGrid(g)
	if e := common.FirstError(errClock, errGrid, number.CheckSamples(samples)); e != api.OK {
		return Eye{}, e
	}
	var found counts
	outside := 0
	for p := range from.places(samples) {
		if !within.contains(p) {
			outside++
			continue
		}
		row, column := within.cell(p)
		found[row][column]++
	}
	return Eye{Cells: found.cells(within), Outside: outside}, api.OK
}

// checkCount returns ErrRange if a count is not from 0 to MaxNumber.
func checkCount(n int) api.Errno {
	return common.InRange(n, 0, api.MaxNumber)
}

// checkRow returns the first error of a row of a diagram whose first row has a number of columns.
func checkRow(row []int, columns int) api.Errno {
	isUneven, isEmpty := len(row) != columns, len(row) == 0
	if e := common.FirstError(common.ErrorIf(isUneven, api.ErrShape), common.ErrorIf(isEmpty, api.ErrEmpty), common.AtMost(row, MaxColumns)); e != api.OK {
		return e
	}
	return common.FirstError(common.Transformed(row, checkCount)...)
}

// CheckEye returns the first error of an eye diagram, or OK.
func CheckEye(x Eye) api.Errno {
	if len(x.Cells) == 0 {
		return api.ErrEmpty
	}
	if e := common.AtMost(x.Cells, MaxRows); e != api.OK {
		return e
	}
	for _, row := range x.Cells {
		if e := checkRow(row, len(x.Cells[0])); e != api.OK {
			return e
		}
	}
	return checkCount(x.Outside)
}

// Merge returns the sum of two eye diagrams.
func Merge(x, y Eye) (Eye, api.Errno) {
	if e := common.FirstError(CheckEye(x), CheckEye(y)); e != api.OK {
		return Eye{}, e
	}
	if len(x.Cells) != len(y.Cells) || len(x.Cells[0]) != len(y.Cells[0]) {
		return Eye{}, api.ErrShape
	}
	add := func(a, b int) int { return a + b }
	rows := common.Combined(x.Cells, y.Cells, func(a, b []int) []int { return common.Combined(a, b, add) })
	outside := x.Outside + y.Outside
	if slices.Max(slices.Concat(rows...)) > api.MaxNumber || outside > api.MaxNumber {
		return Eye{}, api.ErrLarge
	}
	return Eye{Cells: rows, Outside: outside}, api.OK
}
