package measure_test

import (
	"math"
	"math/big"
	"slices"
	"testing"

	"strobe/api"
	"strobe/measure"
)

// P6.1: the examples 1 of the chapter.
func TestLevelExamples(t *testing.T) {
	r := exampleRecord()
	ends, e := measure.Range(r)
	same(t, "Range", ends, e, span("0", "4"), api.OK)
	l, e := measure.FindLevels(r)
	same(t, "FindLevels", l, e, measure.Levels{Base: "0", Top: "4"}, api.OK)
	x, e := measure.Mean(r)
	same(t, "Mean", x, e, "2", api.OK)
	x, e = measure.Power(r)
	same(t, "Power", x, e, "76/11", api.OK)
	bins, e := measure.Histogram(r, "0", "4", 2)
	sameList(t, "Histogram", bins, e, []int{4, 7}, api.OK)
}

// P6.1: samples at the edges of bins, and beyond the first and the last one.
func TestHistogramEdges(t *testing.T) {
	third := []float32{0.33333334, 0.33333331, 0.6666667, 0.6666666, 1, 0}
	for _, row := range []struct {
		s         []float32
		low, high api.Rat
		bins      int
		wanted    []int
	}{
		{[]float32{0, 1, 2, 3, 4}, "0", "4", 4, []int{1, 1, 1, 2}},
		{[]float32{0, 1, 2, 3, 4}, "1", "3", 1, []int{3}},
		{[]float32{-1, negativeZero(), 0, 5, -math.SmallestNonzeroFloat32}, "0", "4", 2, []int{2, 0}},
		{third, "0", "1", 3, []int{2, 2, 2}},
		{nil, "0", "1", 3, []int{0, 0, 0}},
		{[]float32{math.MaxFloat32, -math.MaxFloat32, 0}, "-" + nines(600), nines(600), 2, []int{1, 2}},
		{[]float32{math.MaxFloat32, math.SmallestNonzeroFloat32, 0}, "-1/" + nines(600), "1/" + nines(600), 256, append(append(make([]int, 128), 1), make([]int, 127)...)},
		{[]float32{1, 2}, "3", "4", 2, []int{0, 0}},
	} {
		got, e := measure.Histogram(row.s, row.low, row.high, row.bins)
		sameList(t, "Histogram", got, e, row.wanted, api.OK)
	}
}

// P6.1: histograms of random records.
func TestHistogram(t *testing.T) {
	r := source(1)
	for range 200 {
		s := anyRecord(r, r.Intn(40))
		low := anyNumber(r)
		high := plus(low, big.NewRat(1+r.Int63n(20), 1+r.Int63n(9)))
		if r.Intn(4) == 0 {
			low, high = new(big.Rat).Neg(largeNumber(r, 600)), largeNumber(r, 600)
		}
		bins := []int{1, 2, 3, 7, 16, 31, 256}[r.Intn(7)]
		got, e := measure.Histogram(s, text(low), text(high), bins)
		sameList(t, "Histogram", got, e, binsOf(s, low, high, bins), api.OK)
	}
	s := anyRecord(r, 4096)
	got, e := measure.Histogram(s, "-3/7", "29/10", 9)
	sameList(t, "Histogram", got, e, binsOf(s, big.NewRat(-3, 7), big.NewRat(29, 10), 9), api.OK)
}

// P6.1: levels of records with equal counts, with values in the middle, and with -0.
func TestFindLevelsOfEqualCounts(t *testing.T) {
	for _, row := range []struct {
		s         []float32
		base, top api.Rat
	}{
		{[]float32{0, 1}, "0", "1"}, {[]float32{1, 0}, "0", "1"}, {[]float32{0, 1, 2, 3}, "0", "3"}, {[]float32{3, 2, 1, 0}, "0", "3"},
		{[]float32{0, 1, 1, 2, 2, 3}, "1", "2"}, {[]float32{0, 2, 2, 4}, "2", "4"}, {[]float32{0, 2, 2, 3, 3, 4, 4}, "2", "4"}, {[]float32{-5, -4, -4, 4, 4, 5}, "-4", "4"},
		{[]float32{negativeZero(), 0, -1, -1, -1, 1, 2}, "-1", "2"}, {[]float32{negativeZero(), 0, 0, -1, -1, 3, 2, 2}, "0", "2"}, {[]float32{0, 3, negativeZero(), 1, 1, 1}, "1", "3"},
		{[]float32{negativeZero(), 1}, "0", "1"}, {[]float32{negativeZero(), -1}, "-1", "0"},
		{[]float32{0, math.SmallestNonzeroFloat32}, "0", api.Rat(exact(math.SmallestNonzeroFloat32).RatString())},
		// The middle of both ends is no float.
		{[]float32{1, 16777216, 8388608, 8388608, 8388609, 8388609}, "8388608", "8388609"},
		{[]float32{-math.MaxFloat32, math.MaxFloat32, math.SmallestNonzeroFloat32, math.SmallestNonzeroFloat32}, text(exact(-math.MaxFloat32)), text(exact(math.SmallestNonzeroFloat32))},
	} {
		l, e := measure.FindLevels(row.s)
		same(t, "FindLevels", l, e, measure.Levels{Base: row.base, Top: row.top}, api.OK)
	}
}

// P6.1: levels, ranges, means and powers of random records.
func TestLevels(t *testing.T) {
	r := source(2)
	for range 400 {
		checkLevels(t, anyRecord(r, 1+r.Intn(40)))
	}
	for _, n := range []int{1, 2, 1000} {
		checkLevels(t, anyRecord(r, n))
	}
	largest := slices.Repeat([]float32{math.MaxFloat32, math.SmallestNonzeroFloat32}, 2048)
	checkLevels(t, largest)
}

// checkLevels compares what P6.1 promises of a record that is not empty with the definitions.
func checkLevels(t *testing.T, s []float32) {
	t.Helper()
	l := exacts(s)
	least, greatest := extremes(l)
	ends, e := measure.Range(s)
	same(t, "Range", ends, e, span(text(least), text(greatest)), api.OK)
	x, e := measure.Mean(s)
	same(t, "Mean", x, e, text(meanOf(l, 1)), api.OK)
	x, e = measure.Power(s)
	same(t, "Power", x, e, text(meanOf(l, 2)), api.OK)
	found, e := measure.FindLevels(s)
	if least.Cmp(greatest) == 0 {
		same(t, "FindLevels", found, e, measure.Levels{}, api.ErrNone)
		return
	}
	same(t, "FindLevels", found, e, levelsOf(s), api.OK)
}

// checkLevelErrors checks that all functions of records alone return an error.
func checkLevelErrors(t *testing.T, s []float32, wanted api.Errno) {
	t.Helper()
	l, e := measure.FindLevels(s)
	same(t, "FindLevels", l, e, measure.Levels{}, wanted)
	ends, e := measure.Range(s)
	same(t, "Range", ends, e, api.Span{}, wanted)
	x, e := measure.Mean(s)
	same(t, "Mean", x, e, "", wanted)
	x, e = measure.Power(s)
	same(t, "Power", x, e, "", wanted)
}

// P6.1: records with an error, without samples, and without levels.
func TestLevelErrors(t *testing.T) {
	for _, bad := range badRecords() {
		checkLevelErrors(t, bad.s, bad.e)
	}
	checkLevelErrors(t, nil, api.ErrShort)
	checkLevelErrors(t, []float32{}, api.ErrShort)
	for _, s := range [][]float32{{3}, {2, 2, 2}, {negativeZero(), 0}, make([]float32, 4096)} {
		l, e := measure.FindLevels(s)
		same(t, "FindLevels", l, e, measure.Levels{}, api.ErrNone)
	}
}

// P6.1: the errors of Histogram, in their order.
func TestHistogramErrors(t *testing.T) {
	check := func(s []float32, low, high api.Rat, bins int, wanted api.Errno) {
		t.Helper()
		got, e := measure.Histogram(s, low, high, bins)
		sameList(t, "Histogram", got, e, nil, wanted)
	}
	for _, bad := range badRecords() {
		check(bad.s, "x", "x", 0, bad.e)
		check(bad.s, "0", "1", 2, bad.e)
	}
	for _, bad := range badNumbers() {
		other := badNumbers()[0]
		if bad.e == other.e {
			other = badNumber{nines(601), api.ErrLarge}
		}
		check(nil, bad.a, other.a, 0, bad.e)
		check(exampleRecord(), bad.a, "1", 2, bad.e)
		check(exampleRecord(), "1", bad.a, 0, bad.e)
		check(exampleRecord(), "1", bad.a, 2, bad.e)
	}
	for _, bins := range append(far(), 0, 257) {
		check(exampleRecord(), "1", "1", bins, api.ErrOrder)
		check(exampleRecord(), "2", "1", bins, api.ErrOrder)
		check(exampleRecord(), "0", "1", bins, api.ErrRange)
		check(nil, "0", "1", bins, api.ErrRange)
	}
	check(nil, "1/2", "1/2", 2, api.ErrOrder)
	check(nil, "1/2", "1/3", 2, api.ErrOrder)
}

// P6.1: samples do not change.
func TestLevelsChangeNothing(t *testing.T) {
	unchanged(t, []float32{3, negativeZero(), 3, -2, 5, 5, -2, -2}, func(s []float32) {
		measure.Histogram(s, "0", "4", 3)
		measure.FindLevels(s)
		measure.Range(s)
		measure.Mean(s)
		measure.Power(s)
	})
}
