package memory_test

import (
	"math"
	"slices"
	"testing"

	"strobe/api"
	"strobe/memory"
)

// P9.2: the examples 2, 3 and 4 of the chapter.
func TestEnvelopeExamples(t *testing.T) {
	pair, e := memory.Extremes(exampleSamples(), exampleTree(), 1, 4)
	same(t, "Extremes", pair, e, memory.Pair{Low: 1, High: 4}, api.OK)
	pairs, e := memory.Zoom(exampleSamples(), exampleTree(), 0, 7, 3)
	samePairs(t, "Zoom", pairs, e, []memory.Pair{{Low: 1, High: 3}, {Low: 1, High: 4}, {Low: 2, High: 9}}, api.OK)
	samples, e := memory.Decimated(exampleSamples(), 3)
	sameFloats(t, "Decimated", samples, e, []float32{3, 1, 4, 1, 9, 2}, api.OK)
	n, e := memory.Count(exampleSamples(), exampleTree(), 0, 7, 4)
	same(t, "Count", n, e, 3, api.OK)
}

// P9.2: all ranges of small records.
func TestSmallRanges(t *testing.T) {
	r := source(10)
	for range 150 {
		samples, block := anySamples(r, r.Intn(18)), 1+r.Intn(5)
		tree, level := treeOf(t, samples, block, true), anyLevel(r, samples)
		n := len(samples)
		for from := range n + 1 {
			for to := from; to <= n; to++ {
				count, e := memory.Count(samples, tree, from, to, level)
				same(t, "Count", count, e, referenceCount(samples, from, to, level), api.OK)
				if from < to {
					pair, e := memory.Extremes(samples, tree, from, to)
					samePairs(t, "Extremes", []memory.Pair{pair}, e, []memory.Pair{referencePair(samples, from, to)}, api.OK)
				}
				for columns := 1; columns <= to-from; columns++ {
					pairs, e := memory.Zoom(samples, tree, from, to, columns)
					samePairs(t, "Zoom", pairs, e, referenceZoom(samples, from, to, columns), api.OK)
				}
			}
		}
		for parts := 1; parts <= n; parts++ {
			decimated, e := memory.Decimated(samples, parts)
			sameFloats(t, "Decimated", decimated, e, referenceDecimated(samples, parts), api.OK)
		}
	}
}

// P9.2: ranges of large records.
func TestLargeRanges(t *testing.T) {
	r := source(11)
	found := map[bool]int{}
	for i := range 300 {
		n := r.Intn(4096)
		if i < 10 {
			n = 4096
		}
		samples, block := anySamples(r, n), anyBlock(r)
		tree := treeOf(t, samples, block, true)
		from, to := anyRange(r, n)
		level := anyLevel(r, samples)
		count, e := memory.Count(samples, tree, from, to, level)
		same(t, "Count", count, e, referenceCount(samples, from, to, level), api.OK)
		found[count > 0 && count < to-from]++
		if from == to {
			continue
		}
		pair, e := memory.Extremes(samples, tree, from, to)
		samePairs(t, "Extremes", []memory.Pair{pair}, e, []memory.Pair{referencePair(samples, from, to)}, api.OK)
		columns := 1 + r.Intn(min(2048, to-from))
		unchanged(t, samples, func(samples []float32) {
			pairs, e := memory.Zoom(samples, tree, from, to, columns)
			samePairs(t, "Zoom", pairs, e, referenceZoom(samples, from, to, columns), api.OK)
			if len(samples) < 1000 {
				decimated, e := memory.Decimated(samples, min(columns, n))
				sameFloats(t, "Decimated", decimated, e, referenceDecimated(samples, min(columns, n)), api.OK)
			}
		})
	}
	decided(t, "Count", found, true, false)
	full := anySamples(r, 4096)
	pairs, e := memory.Zoom(full, treeOf(t, full, 16, true), 0, 4096, 2048)
	samePairs(t, "Zoom", pairs, e, referenceZoom(full, 0, 4096, 2048), api.OK)
	decimated, e := memory.Decimated(full, 2048)
	sameFloats(t, "Decimated", decimated, e, referenceDecimated(full, 2048), api.OK)
}

// P9.2: levels at samples and beside them, of any size.
func TestCountLevels(t *testing.T) {
	samples := []float32{-math.MaxFloat32, -1, negativeZero(), 0, math.SmallestNonzeroFloat32, 1, math.MaxFloat32}
	for _, block := range []int{1, 2, 256} {
		tree := treeOf(t, samples, block, true)
		for _, row := range []struct {
			level  float32
			wanted int
		}{
			{-math.MaxFloat32, 7}, {above(-math.MaxFloat32), 6}, {below(-1), 6}, {-1, 6}, {above(-1), 5}, {-math.SmallestNonzeroFloat32, 5}, {0, 5}, {negativeZero(), 5},
			{math.SmallestNonzeroFloat32, 3}, {2 * math.SmallestNonzeroFloat32, 2}, {1, 2}, {above(1), 1}, {below(math.MaxFloat32), 1}, {math.MaxFloat32, 1},
		} {
			n, e := memory.Count(samples, tree, 0, 7, row.level)
			same(t, "Count", n, e, row.wanted, api.OK)
		}
		n, e := memory.Count(samples, tree, 3, 3, 0)
		same(t, "Count", n, e, 0, api.OK)
	}
	n, e := memory.Count(nil, memory.Tree{Block: 1}, 0, 0, 0)
	same(t, "Count", n, e, 0, api.OK)
}

// P9.2: the orders of the samples of a part.
func TestDecimatedOrder(t *testing.T) {
	for _, row := range []struct {
		samples []float32
		parts   int
		wanted  []float32
	}{
		{[]float32{5}, 1, []float32{5, 5}}, {[]float32{negativeZero()}, 1, []float32{0, 0}}, {[]float32{2, 2, 2}, 1, []float32{2, 2}}, {[]float32{1, 2}, 1, []float32{1, 2}}, {[]float32{2, 1}, 1, []float32{2, 1}},
		// The first of equal samples counts.
		{[]float32{1, 2, 1}, 1, []float32{1, 2}}, {[]float32{2, 1, 2}, 1, []float32{2, 1}}, {[]float32{3, 2, 1, 2, 3}, 1, []float32{3, 1}}, {[]float32{0, 1, negativeZero()}, 1, []float32{0, 1}}, {[]float32{negativeZero(), -1, 0}, 1, []float32{0, -1}},
		{[]float32{1, 2, 3, 4, 5}, 2, []float32{1, 2, 3, 5}}, {[]float32{5, 4, 3, 2, 1}, 2, []float32{5, 4, 3, 1}}, {[]float32{1, 2, 3}, 3, []float32{1, 1, 2, 2, 3, 3}},
		{[]float32{math.MaxFloat32, -math.MaxFloat32}, 1, []float32{math.MaxFloat32, -math.MaxFloat32}},
	} {
		unchanged(t, row.samples, func(samples []float32) {
			decimated, e := memory.Decimated(samples, row.parts)
			sameFloats(t, "Decimated", decimated, e, row.wanted, api.OK)
			clear(decimated)
		})
	}
}

// P9.2: the errors of samples, trees and ranges come first.
func TestRangeErrors(t *testing.T) {
	check := func(samples []float32, tree memory.Tree, ends [2]int, wantedError api.Errno) {
		t.Helper()
		pair, e := memory.Extremes(samples, tree, ends[0], ends[1])
		same(t, "Extremes", pair, e, memory.Pair{}, wantedError)
		for _, columns := range []int{1, 0, 2049} {
			pairs, e := memory.Zoom(samples, tree, ends[0], ends[1], columns)
			samePairs(t, "Zoom", pairs, e, nil, wantedError)
		}
		for _, level := range append(notFinite(), 1) {
			n, e := memory.Count(samples, tree, ends[0], ends[1], level)
			same(t, "Count", n, e, 0, wantedError)
		}
	}
	for _, b := range badSamples() {
		check(b.argument, exampleTree(), [2]int{0, 7}, b.e)
		check(b.argument, memory.Tree{}, [2]int{-1, 7}, b.e)
	}
	for _, b := range badTrees() {
		for _, ends := range [][2]int{{0, 7}, {3, 3}, {-1, 7}, {7, 0}} {
			check(exampleSamples(), b.argument, ends, b.e)
		}
	}
	for _, b := range badRanges() {
		check(exampleSamples(), exampleTree(), b.argument, b.e)
	}
}

// P9.2: the errors of levels, columns and parts, and those after them.
func TestEnvelopeErrors(t *testing.T) {
	samples, tree := exampleSamples(), exampleTree()
	for i := range 8 {
		pair, e := memory.Extremes(samples, tree, i, i)
		same(t, "Extremes", pair, e, memory.Pair{}, api.ErrEmpty)
		for _, f := range notFinite() {
			n, e := memory.Count(samples, tree, i, 7, f)
			same(t, "Count", n, e, 0, api.ErrForm)
		}
	}
	pair, e := memory.Extremes(nil, memory.Tree{Block: 1}, 0, 0)
	same(t, "Extremes", pair, e, memory.Pair{}, api.ErrEmpty)
	for _, row := range []struct {
		from, to, columns int
		e                 api.Errno
	}{{0, 7, 0, api.ErrRange}, {0, 7, 2049, api.ErrRange}, {0, 7, -1, api.ErrRange}, {0, 7, 8, api.ErrShort}, {0, 7, 2048, api.ErrShort}, {3, 3, 1, api.ErrShort}, {3, 3, 0, api.ErrRange}, {2, 4, 3, api.ErrShort}, {0, 0, math.MinInt, api.ErrRange}, {0, 7, math.MaxInt, api.ErrRange}} {
		pairs, e := memory.Zoom(samples, tree, row.from, row.to, row.columns)
		samePairs(t, "Zoom", pairs, e, nil, row.e)
	}
	for _, b := range badSamples() {
		for _, parts := range []int{0, 1, 2049} {
			decimated, e := memory.Decimated(b.argument, parts)
			sameFloats(t, "Decimated", decimated, e, nil, b.e)
		}
	}
	for _, n := range []int{0, 1, 7, 2047, 4096} {
		for _, parts := range []int{math.MinInt, -1, 0, 2049, math.MaxInt} {
			decimated, e := memory.Decimated(make([]float32, n), parts)
			sameFloats(t, "Decimated", decimated, e, nil, api.ErrRange)
		}
		if n < 2048 {
			decimated, e := memory.Decimated(make([]float32, n), n+1)
			sameFloats(t, "Decimated", decimated, e, nil, api.ErrShort)
		}
	}
}

// P9.2: results share no memory.
func TestEnvelopesAreNew(t *testing.T) {
	tree := exampleTree()
	for range 2 {
		pairs, e := memory.Zoom(exampleSamples(), tree, 0, 7, 1)
		samePairs(t, "Zoom", pairs, e, []memory.Pair{{Low: 1, High: 9}}, api.OK)
		pairs[0].Low = 99
		pairs = append(slices.Clip(pairs), pairs...)
		clear(pairs)
	}
	sameTree(t, "the tree", tree, api.OK, exampleTree(), api.OK)
}
