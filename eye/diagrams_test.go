package eye_test

import (
	"math"
	"math/big"
	"math/rand"
	"slices"
	"testing"

	"strobe/api"
	"strobe/eye"
)

// P8.3: the example 4 of the chapter.
func TestDiagramExample(t *testing.T) {
	x, e := eye.Count(exampleClock(), exampleGrid(), []float32{0, 1, 1, 2})
	sameEye(t, "Count", x, e, eye.Eye{Cells: [][]int{{1, 0}, {1, 1}}, Outside: 1}, api.OK)
}

// P8.3: grids with and without an error.
func TestCheckGrid(t *testing.T) {
	for _, b := range badGrids() {
		isError(t, "CheckGrid", eye.CheckGrid(b.argument), b.e)
		for _, samples := range [][]float32{nil, {1}, notFinite(), make([]float32, 4097)} {
			x, e := eye.Count(exampleClock(), b.argument, samples)
			sameEye(t, "Count", x, e, eye.Eye{}, b.e)
		}
	}
	for _, g := range []eye.Grid{exampleGrid(), {1, 64, "-" + nines(600), nines(600)}, {64, 1, "0", "1/" + nines(600)}} {
		isError(t, "CheckGrid", eye.CheckGrid(g), api.OK)
	}
}

// P8.3: the errors of clocks and samples, in their order.
func TestCountErrors(t *testing.T) {
	for _, b := range badClocks() {
		for _, g := range []eye.Grid{exampleGrid(), {}} {
			x, e := eye.Count(b.argument, g, notFinite())
			sameEye(t, "Count", x, e, eye.Eye{}, b.e)
		}
	}
	for _, b := range badSamples() {
		x, e := eye.Count(exampleClock(), exampleGrid(), b.argument)
		sameEye(t, "Count", x, e, eye.Eye{}, b.e)
	}
}

// P8.3: values at the limits of rows, phases at the limits of columns, and bit numbers of any size.
func TestCount(t *testing.T) {
	below, above := math.Nextafter32(2, 0), math.Nextafter32(-1, -9)
	g := eye.Grid{Columns: 3, Rows: 3, Low: "-1", High: "2"}
	// The phases are 0, 1/3, 2/3 in turn.
	for _, row := range []struct {
		samples []float32
		cells   [][]int
		outside int
	}{
		{nil, [][]int{{0, 0, 0}, {0, 0, 0}, {0, 0, 0}}, 0}, {[]float32{-1, -1, -1}, [][]int{{1, 1, 1}, {0, 0, 0}, {0, 0, 0}}, 0}, {[]float32{2, above, below}, [][]int{{0, 0, 0}, {0, 0, 0}, {0, 0, 1}}, 2},
		{[]float32{0, negativeZero(), -0.5, 0.5, 1, 1.5, 99, -99}, [][]int{{0, 0, 1}, {2, 1, 0}, {0, 1, 1}}, 2}, {[]float32{math.MaxFloat32, -math.MaxFloat32}, [][]int{{0, 0, 0}, {0, 0, 0}, {0, 0, 0}}, 2},
	} {
		for _, start := range numbers("0", "3", "-3", "3"+zeros(599), "-3"+zeros(599)) {
			x, e := eye.Count(eye.Clock{Start: start, Period: "3"}, g, row.samples)
			sameEye(t, "Count", x, e, eye.Eye{Cells: row.cells, Outside: row.outside}, api.OK)
		}
	}
	// The phases are a little less and a little more than 1/3 and 0.
	x, e := eye.Count(eye.Clock{Start: "1/1000", Period: "3"}, g, []float32{0, 0, 0})
	sameEye(t, "Count", x, e, eye.Eye{Cells: [][]int{{0, 0, 0}, {1, 1, 1}, {0, 0, 0}}}, api.OK)
	x, e = eye.Count(eye.Clock{Start: "1/1000", Period: "3"}, eye.Grid{Columns: 3, Rows: 1, Low: "0", High: "1"}, []float32{0, 0})
	sameEye(t, "Count", x, e, eye.Eye{Cells: [][]int{{1, 0, 1}}}, api.OK)
	x, e = eye.Count(eye.Clock{Start: "-1/1000", Period: "3"}, eye.Grid{Columns: 3, Rows: 1, Low: "0", High: "1"}, []float32{0, 0})
	sameEye(t, "Count", x, e, eye.Eye{Cells: [][]int{{1, 1, 0}}}, api.OK)
	x, e = eye.Count(eye.Clock{Start: "0", Period: "1"}, eye.Grid{Columns: 1, Rows: 1, Low: "0", High: "1/" + nines(600)}, []float32{0, math.SmallestNonzeroFloat32, 0})
	sameEye(t, "Count", x, e, eye.Eye{Cells: [][]int{{2}}, Outside: 1}, api.OK)
}

// anyGrid returns a grid.
func anyGrid(r *rand.Rand, most int) eye.Grid {
	low := anyNumber(r)
	return eye.Grid{Columns: 1 + r.Intn(most), Rows: 1 + r.Intn(most), Low: text(low), High: text(plus(low, positive(r)))}
}

// P8.3: random clocks, grids and samples.
func TestCounts(t *testing.T) {
	r := source(20)
	for range 150 {
		c, g, samples := anyClock(r), anyGrid(r, 9), anySamples(r, r.Intn(40))
		x, e := eye.Count(c, g, samples)
		sameEye(t, "Count", x, e, referenceCount(c, g, samples), api.OK)
	}
	for range 3 {
		c, g, samples := anyClock(r), anyGrid(r, 64), anySamples(r, 20)
		g.Columns = 64
		x, e := eye.Count(c, g, samples)
		sameEye(t, "Count", x, e, referenceCount(c, g, samples), api.OK)
	}
	for range 30 {
		part := func() *big.Rat { return largeNumber(r, []int{100, 300, 598}[r.Intn(3)]) }
		c := clock(part(), plus(fraction(1, 3), part()))
		g := eye.Grid{Columns: 5, Rows: 4, Low: text(negative(part())), High: text(part())}
		samples := anySamples(r, 12)
		x, e := eye.Count(c, g, samples)
		sameEye(t, "Count", x, e, referenceCount(c, g, samples), api.OK)
	}
}

// cells returns rows with a count in each cell.
func cells(rows, columns, n int) [][]int {
	var l [][]int
	for range rows {
		l = append(l, slices.Repeat([]int{n}, columns))
	}
	return l
}

// badEyes returns diagrams with an error.
func badEyes() []bad[eye.Eye] {
	diagram := func(rows ...[]int) eye.Eye { return eye.Eye{Cells: rows, Outside: -1} }
	many := make([]int, 65)
	l := []bad[eye.Eye]{
		{eye.Eye{}, api.ErrEmpty}, {diagram(), api.ErrEmpty}, {eye.Eye{Cells: make([][]int, 65)}, api.ErrMany}, {eye.Eye{Cells: cells(65, 1, -1)}, api.ErrMany},
		{diagram(nil), api.ErrEmpty}, {diagram(nil, []int{1}), api.ErrEmpty}, {diagram([]int{}, nil), api.ErrEmpty}, {eye.Eye{Cells: make([][]int, 64)}, api.ErrEmpty},
		{diagram([]int{1}, nil), api.ErrShape}, {diagram([]int{1}, []int{1, 2}), api.ErrShape}, {diagram([]int{1, 2}, []int{1}), api.ErrShape}, {diagram([]int{1, 2}, []int{3, 4}, []int{-1}), api.ErrShape}, {diagram([]int{1}, many), api.ErrShape},
		{diagram(many), api.ErrMany}, {diagram(many, []int{1}), api.ErrMany}, {diagram(slices.Repeat([]int{-1}, 65)), api.ErrMany}, {diagram([]int{1, -1}, []int{1}), api.ErrRange}, {diagram([]int{1, 2}, []int{1}, []int{-1, 2}), api.ErrShape},
	}
	for _, n := range far() {
		l = append(l, bad[eye.Eye]{eye.Eye{Cells: [][]int{{n}}}, api.ErrRange}, bad[eye.Eye]{eye.Eye{Cells: [][]int{{1, 2}, {3, n}}}, api.ErrRange}, bad[eye.Eye]{eye.Eye{Cells: [][]int{{1, 2}, {3, 4}}, Outside: n}, api.ErrRange})
	}
	return l
}

// P8.3: diagrams with and without an error.
func TestCheckEye(t *testing.T) {
	for _, b := range badEyes() {
		isError(t, "CheckEye", eye.CheckEye(b.argument), b.e)
		for _, other := range []eye.Eye{{Cells: [][]int{{1}}}, {}, b.argument} {
			x, e := eye.Merge(b.argument, other)
			sameEye(t, "Merge", x, e, eye.Eye{}, b.e)
		}
		x, e := eye.Merge(eye.Eye{Cells: cells(7, 7, 999999999), Outside: 999999999}, b.argument)
		sameEye(t, "Merge", x, e, eye.Eye{}, b.e)
	}
	for _, x := range []eye.Eye{{Cells: cells(64, 64, 999999999), Outside: 999999999}, {Cells: [][]int{{0}}}, {Cells: cells(1, 64, 0)}, {Cells: cells(64, 1, 5), Outside: 1}} {
		isError(t, "CheckEye", eye.CheckEye(x), api.OK)
	}
}

// P8.3: sums, also the greatest, and diagrams that do not fit.
func TestMerge(t *testing.T) {
	x, y := eye.Eye{Cells: [][]int{{1, 0, 7}, {0, 3, 4}}, Outside: 5}, eye.Eye{Cells: [][]int{{2, 0, 1}, {6, 9, 0}}, Outside: 1}
	sum, e := eye.Merge(x, y)
	sameEye(t, "Merge", sum, e, eye.Eye{Cells: [][]int{{3, 0, 8}, {6, 12, 4}}, Outside: 6}, api.OK)
	full, empty := eye.Eye{Cells: cells(64, 64, 999999999), Outside: 999999999}, eye.Eye{Cells: cells(64, 64, 0)}
	sum, e = eye.Merge(full, empty)
	sameEye(t, "Merge", sum, e, full, api.OK)
	sum, e = eye.Merge(full, full)
	sameEye(t, "Merge", sum, e, eye.Eye{}, api.ErrLarge)
	for _, row := range []struct {
		cells   [][]int
		outside int
		e       api.Errno
	}{
		{[][]int{{1, 0}, {0, 0}}, 0, api.ErrLarge}, {[][]int{{0, 0}, {0, 1}}, 0, api.ErrLarge}, {[][]int{{0, 0}, {0, 0}}, 1, api.ErrLarge},
		{[][]int{{0, 0}, {0, 0}}, 0, api.OK}, {[][]int{{1}, {1}}, 1, api.ErrShape}, {[][]int{{1, 1}}, 1, api.ErrShape}, {[][]int{{1, 1, 1}, {1, 1, 1}}, 1, api.ErrShape}, {[][]int{{1, 1}, {1, 1}, {1, 1}}, 1, api.ErrShape}, {[][]int{{1, 1, 1, 1}}, 0, api.ErrShape},
	} {
		full, wanted := eye.Eye{Cells: cells(2, 2, 999999999), Outside: 999999999}, eye.Eye{}
		if row.e == api.OK {
			wanted = full
		}
		other := eye.Eye{Cells: row.cells, Outside: row.outside}
		sum, e = eye.Merge(full, other)
		sameEye(t, "Merge", sum, e, wanted, row.e)
		sum, e = eye.Merge(other, full)
		sameEye(t, "Merge", sum, e, wanted, row.e)
	}
}

// P8.3: arguments do not change, and rows share no memory.
func TestDiagramsChangeNothing(t *testing.T) {
	row := []int{1, 2}
	x := eye.Eye{Cells: [][]int{row, row}, Outside: 3}
	wanted := eye.Eye{Cells: [][]int{{2, 4}, {2, 4}}, Outside: 6}
	first, e := eye.Merge(x, x)
	sameEye(t, "Merge", first, e, wanted, api.OK)
	second, e := eye.Merge(x, x)
	first.Cells[0][0] = 99
	_ = append(first.Cells[0], 98)
	sameEye(t, "Merge", first, e, eye.Eye{Cells: [][]int{{99, 4}, {2, 4}}, Outside: 6}, api.OK)
	sameEye(t, "Merge", second, e, wanted, api.OK)
	sameEye(t, "Merge", x, e, eye.Eye{Cells: [][]int{{1, 2}, {1, 2}}, Outside: 3}, api.OK)
	unchanged(t, []float32{0, 1, 1, 2}, func(samples []float32) {
		first, _ := eye.Count(exampleClock(), exampleGrid(), samples)
		second, e := eye.Count(exampleClock(), exampleGrid(), samples)
		first.Cells[0][0] = 99
		_ = append(first.Cells[0], 98)
		sameEye(t, "Count", first, e, eye.Eye{Cells: [][]int{{99, 0}, {1, 1}}, Outside: 1}, api.OK)
		sameEye(t, "Count", second, e, eye.Eye{Cells: [][]int{{1, 0}, {1, 1}}, Outside: 1}, api.OK)
	})
}
