package memory_test

import (
	"math"
	"math/big"
	"math/rand"
	"slices"
	"testing"

	"strobe/api"
	"strobe/memory"
)

// P9.3: the examples 4 and 5 of the chapter.
func TestSearchExamples(t *testing.T) {
	i, e := memory.Next(exampleSamples(), exampleTree(), 3, 4)
	same(t, "Next", i, e, 4, api.OK)
	i, e = memory.Edge(exampleSamples(), exampleTree(), 0, 4)
	same(t, "Edge", i, e, 2, api.OK)
	i, e = memory.Edge(exampleSamples(), exampleTree(), 3, 4)
	same(t, "Edge", i, e, 4, api.OK)
	ends, e := memory.Longest(exampleSamples(), 4)
	same(t, "Longest", ends, e, [2]int{4, 6}, api.OK)
	i, e = memory.Peak(exampleSamples(), exampleTree())
	same(t, "Peak", i, e, 5, api.OK)
	i, e = memory.Find(exampleSamples(), []float32{1, 5}, 0, "0")
	same(t, "Find", i, e, 3, api.OK)
	i, e = memory.Find(exampleSamples(), []float32{1, 5}, 0, "1")
	same(t, "Find", i, e, 1, api.OK)
}

// P9.3: searches from all indices of small records.
func TestSmallSearches(t *testing.T) {
	r := source(20)
	found := map[api.Errno]int{}
	for range 800 {
		samples := anySamples(r, r.Intn(25))
		tree := treeOf(t, samples, 1+r.Intn(5), true)
		for _, level := range []float32{anyLevel(r, samples), anyLevel(r, samples), 0, negativeZero()} {
			for from := range len(samples) + 1 {
				wanted, wantedError := referenceNext(samples, from, level)
				i, e := memory.Next(samples, tree, from, level)
				same(t, "Next", i, e, wanted, wantedError)
				wanted, wantedError = referenceEdge(samples, from, level)
				i, e = memory.Edge(samples, tree, from, level)
				same(t, "Edge", i, e, wanted, wantedError)
				found[e]++
			}
			wantedEnds, wantedError := referenceLongest(samples, level)
			ends, e := memory.Longest(samples, level)
			same(t, "Longest", ends, e, wantedEnds, wantedError)
		}
		wanted, wantedError := referencePeak(samples)
		i, e := memory.Peak(samples, tree)
		same(t, "Peak", i, e, wanted, wantedError)
	}
	decided(t, "Edge", found, api.OK, api.ErrNone)
}

// sparse returns n samples, of which most are far below a few.
func sparse(r *rand.Rand, n int) []float32 {
	samples := make([]float32, n)
	for i := range samples {
		samples[i] = float32(r.NormFloat64())
	}
	for range r.Intn(4) {
		samples[r.Intn(n)] = float32(5 + r.Intn(3))
	}
	return samples
}

// P9.3: searches in large records.
func TestLargeSearches(t *testing.T) {
	r := source(21)
	found := map[api.Errno]int{}
	for range 200 {
		samples := sparse(r, 1+r.Intn(4096))
		if r.Intn(4) == 0 {
			for i := range samples {
				samples[i] = -samples[i]
			}
		}
		tree := treeOf(t, samples, anyBlock(r), false)
		level := []float32{4, 5, 6, 7, -4}[r.Intn(5)]
		from := r.Intn(len(samples) + 1)
		unchanged(t, samples, func(samples []float32) {
			wanted, wantedError := referenceNext(samples, from, level)
			i, e := memory.Next(samples, tree, from, level)
			same(t, "Next", i, e, wanted, wantedError)
			wanted, wantedError = referenceEdge(samples, from, level)
			i, e = memory.Edge(samples, tree, from, level)
			same(t, "Edge", i, e, wanted, wantedError)
			found[e]++
			wanted, wantedError = referencePeak(samples)
			i, e = memory.Peak(samples, tree)
			same(t, "Peak", i, e, wanted, wantedError)
		})
	}
	decided(t, "Edge", found, api.OK, api.ErrNone)
}

// P9.3: edges at the beginning, at the end and at the index itself.
func TestEdges(t *testing.T) {
	for _, row := range []struct {
		samples []float32
		from    int
		level   float32
		wanted  int
		e       api.Errno
	}{
		{nil, 0, 0, 0, api.ErrNone}, {[]float32{9}, 0, 1, 0, api.ErrNone}, {[]float32{9}, 1, 1, 0, api.ErrNone}, {[]float32{0}, 0, 1, 0, api.ErrNone}, {[]float32{9, 9}, 0, 1, 0, api.ErrNone}, {[]float32{0, 0}, 0, 1, 0, api.ErrNone},
		{[]float32{0, 9}, 0, 1, 1, api.OK}, {[]float32{0, 9}, 1, 1, 1, api.OK}, {[]float32{0, 9}, 2, 1, 0, api.ErrNone}, {[]float32{0, 1}, 0, 1, 1, api.OK}, {[]float32{0, 1}, 0, above(1), 0, api.ErrNone}, {[]float32{1, 1}, 0, 1, 0, api.ErrNone}, {[]float32{below(1), 1}, 0, 1, 1, api.OK},
		{[]float32{9, 0, 9, 9, 0, 9}, 0, 1, 2, api.OK}, {[]float32{9, 0, 9, 9, 0, 9}, 2, 1, 2, api.OK}, {[]float32{9, 0, 9, 9, 0, 9}, 3, 1, 5, api.OK}, {[]float32{9, 0, 9, 9, 0, 9}, 5, 1, 5, api.OK}, {[]float32{9, 0, 9, 9, 0, 9}, 6, 1, 0, api.ErrNone},
		{[]float32{negativeZero(), 0}, 0, 0, 0, api.ErrNone}, {[]float32{-1, negativeZero()}, 0, 0, 1, api.OK}, {[]float32{-1, 0}, 0, negativeZero(), 1, api.OK}, {[]float32{-math.SmallestNonzeroFloat32, negativeZero()}, 0, 0, 1, api.OK},
		{[]float32{-math.MaxFloat32, math.MaxFloat32}, 0, math.MaxFloat32, 1, api.OK}, {[]float32{-math.MaxFloat32, math.MaxFloat32}, 0, -math.MaxFloat32, 0, api.ErrNone},
	} {
		for _, block := range []int{1, 2, 3, 256} {
			i, e := memory.Edge(row.samples, treeOf(t, row.samples, block, true), row.from, row.level)
			same(t, "Edge", i, e, row.wanted, row.e)
		}
	}
}

// P9.3: the first of several longest runs, and runs at both ends.
func TestRuns(t *testing.T) {
	for _, row := range []struct {
		samples []float32
		level   float32
		wanted  [2]int
		e       api.Errno
	}{
		{nil, 0, [2]int{}, api.ErrNone}, {[]float32{0}, 1, [2]int{}, api.ErrNone}, {[]float32{1}, 1, [2]int{0, 1}, api.OK}, {[]float32{1, 1, 1}, 1, [2]int{0, 3}, api.OK}, {[]float32{1, 0, 1}, 1, [2]int{0, 1}, api.OK}, {[]float32{0, 1, 0, 1, 1}, 1, [2]int{3, 5}, api.OK},
		{[]float32{1, 1, 0, 1, 1}, 1, [2]int{0, 2}, api.OK}, {[]float32{0, 0, 1}, 1, [2]int{2, 3}, api.OK}, {[]float32{below(1), 1, below(1)}, 1, [2]int{1, 2}, api.OK}, {[]float32{0, negativeZero(), -1}, 0, [2]int{0, 2}, api.OK}, {[]float32{0, negativeZero(), -1}, negativeZero(), [2]int{0, 2}, api.OK},
		{make([]float32, 4096), 0, [2]int{0, 4096}, api.OK}, {make([]float32, 4096), math.SmallestNonzeroFloat32, [2]int{}, api.ErrNone},
	} {
		unchanged(t, row.samples, func(samples []float32) {
			ends, e := memory.Longest(samples, row.level)
			same(t, "Longest", ends, e, row.wanted, row.e)
		})
	}
	for _, b := range badSamples() {
		for _, level := range append(notFinite(), 1) {
			ends, e := memory.Longest(b.argument, level)
			same(t, "Longest", ends, e, [2]int{}, b.e)
		}
	}
	for _, f := range notFinite() {
		for _, samples := range [][]float32{nil, {1}, make([]float32, 4096)} {
			ends, e := memory.Longest(samples, f)
			same(t, "Longest", ends, e, [2]int{}, api.ErrForm)
		}
	}
}

// P9.3: the first of several peaks.
func TestPeaks(t *testing.T) {
	for _, row := range []struct {
		samples []float32
		wanted  int
	}{{[]float32{5}, 0}, {[]float32{5, 5}, 0}, {[]float32{4, 5, 5}, 1}, {[]float32{-3, -2, -1}, 2}, {[]float32{-1, negativeZero(), 0}, 1}, {[]float32{0, negativeZero()}, 0}, {[]float32{-math.MaxFloat32}, 0}, {make([]float32, 4096), 0}, {append(make([]float32, 4095), 1), 4095}} {
		for _, block := range []int{1, 2, 256} {
			i, e := memory.Peak(row.samples, treeOf(t, row.samples, block, true))
			same(t, "Peak", i, e, row.wanted, api.OK)
		}
	}
	i, e := memory.Peak(nil, memory.Tree{Block: 256})
	same(t, "Peak", i, e, 0, api.ErrEmpty)
}

// P9.3: the errors of samples, trees, indices and levels, in their order.
func TestSearchErrors(t *testing.T) {
	check := func(samples []float32, tree memory.Tree, from int, level float32, wantedError api.Errno) {
		t.Helper()
		i, e := memory.Next(samples, tree, from, level)
		same(t, "Next", i, e, 0, wantedError)
		i, e = memory.Edge(samples, tree, from, level)
		same(t, "Edge", i, e, 0, wantedError)
	}
	levels := append(notFinite(), 1)
	for _, level := range levels {
		for _, b := range badSamples() {
			check(b.argument, exampleTree(), 0, level, b.e)
			check(b.argument, memory.Tree{}, -1, level, b.e)
		}
		for _, b := range badTrees() {
			check(exampleSamples(), b.argument, 0, level, b.e)
			check(exampleSamples(), b.argument, 8, level, b.e)
		}
		for _, from := range append(far(), 8) {
			check(exampleSamples(), exampleTree(), from, level, api.ErrRange)
			check(nil, memory.Tree{Block: 1}, from, level, api.ErrRange)
		}
	}
	for _, f := range notFinite() {
		for from := range 8 {
			check(exampleSamples(), exampleTree(), from, f, api.ErrForm)
		}
		check(nil, memory.Tree{Block: 1}, 0, f, api.ErrForm)
	}
	for from := range 8 {
		check(exampleSamples(), exampleTree(), from, above(9), api.ErrNone)
	}
	check(exampleSamples(), exampleTree(), 7, 1, api.ErrNone)
	check(nil, memory.Tree{Block: 1}, 0, 1, api.ErrNone)
	for _, b := range badSamples() {
		i, e := memory.Peak(b.argument, exampleTree())
		same(t, "Peak", i, e, 0, b.e)
	}
	for _, b := range badTrees() {
		i, e := memory.Peak(exampleSamples(), b.argument)
		same(t, "Peak", i, e, 0, b.e)
	}
	i, e := memory.Peak(nil, memory.Tree{})
	same(t, "Peak", i, e, 0, api.ErrRange)
}

// P9.3: patterns in random samples.
func TestFind(t *testing.T) {
	r := source(22)
	found := map[api.Errno]int{}
	for range 3000 {
		samples := anySamples(r, r.Intn(40))
		pattern := anySamples(r, 1+r.Intn(3))
		if at := r.Intn(len(samples) + 1); at < len(samples) && r.Intn(2) == 0 {
			pattern = slices.Clone(samples[at:min(len(samples), at+1+r.Intn(5))])
		}
		tolerance := []*big.Rat{new(big.Rat), big.NewRat(1, 2), big.NewRat(1, 3), big.NewRat(3, 1), exact(math.SmallestNonzeroFloat32), exact(math.MaxFloat32)}[r.Intn(6)]
		from := r.Intn(len(samples) + 1)
		wanted, wantedError := referenceFind(samples, pattern, from, tolerance)
		unchanged(t, samples, func(samples []float32) {
			unchanged(t, pattern, func(pattern []float32) {
				i, e := memory.Find(samples, pattern, from, api.Rat(tolerance.RatString()))
				same(t, "Find", i, e, wanted, wantedError)
				found[e]++
			})
		})
	}
	decided(t, "Find", found, api.OK, api.ErrNone)
}

// P9.3: patterns that fit just yet, or nearly.
func TestFindLimits(t *testing.T) {
	most, least := float32(math.MaxFloat32), float32(math.SmallestNonzeroFloat32)
	tiny := api.Rat(exact(least).RatString())
	double := api.Rat(new(big.Rat).Add(exact(most), exact(most)).RatString())
	lessThanDouble := api.Rat(new(big.Rat).Sub(valid(double), big.NewRat(1, 3)).RatString())
	for _, row := range []struct {
		samples, pattern []float32
		from             int
		tolerance        api.Rat
		wanted           int
		e                api.Errno
	}{
		{[]float32{1}, []float32{1}, 0, "0", 0, api.OK}, {[]float32{1}, []float32{1}, 1, "0", 0, api.ErrNone}, {nil, []float32{1}, 0, "0", 0, api.ErrNone}, {[]float32{1}, []float32{1, 1}, 0, "9", 0, api.ErrNone}, {[]float32{1, 1, 1}, []float32{1, 1}, 1, "0", 1, api.OK}, {[]float32{1, 1, 1}, []float32{1, 1}, 2, "0", 0, api.ErrNone},
		{[]float32{1}, []float32{above(1)}, 0, "0", 0, api.ErrNone}, {[]float32{1}, []float32{above(1)}, 0, "1/8388608", 0, api.OK}, {[]float32{1}, []float32{above(1)}, 0, "1/8388609", 0, api.ErrNone}, {[]float32{1}, []float32{above(1)}, 0, "1/8388607", 0, api.OK}, {[]float32{above(1)}, []float32{1}, 0, "1/8388609", 0, api.ErrNone}, {[]float32{above(1)}, []float32{1}, 0, "1/8388608", 0, api.OK},
		{[]float32{0}, []float32{negativeZero()}, 0, "0", 0, api.OK}, {[]float32{negativeZero()}, []float32{0}, 0, "0", 0, api.OK}, {[]float32{least}, []float32{0}, 0, "0", 0, api.ErrNone}, {[]float32{least}, []float32{0}, 0, tiny, 0, api.OK}, {[]float32{least}, []float32{-least}, 0, tiny, 0, api.ErrNone}, {[]float32{0}, []float32{least}, 0, "1/" + nines(600), 0, api.ErrNone},
		{[]float32{most}, []float32{-most}, 0, double, 0, api.OK}, {[]float32{most}, []float32{-most}, 0, lessThanDouble, 0, api.ErrNone}, {[]float32{-most}, []float32{most}, 0, lessThanDouble, 0, api.ErrNone}, {[]float32{most}, []float32{-most}, 0, nines(600), 0, api.OK},
		// Floats do not tell the differences from 2^24.
		{[]float32{16777216}, []float32{-1}, 0, "16777216", 0, api.ErrNone}, {[]float32{16777216}, []float32{-1}, 0, "16777217", 0, api.OK}, {[]float32{most}, []float32{-least}, 0, api.Rat(exact(most).RatString()), 0, api.ErrNone},
		{make([]float32, 4096), make([]float32, 64), 4032, "0", 4032, api.OK}, {make([]float32, 4096), make([]float32, 64), 4033, "0", 0, api.ErrNone}, {append(make([]float32, 4032), slices.Repeat([]float32{1}, 64)...), slices.Repeat([]float32{1}, 64), 0, "1/2", 4032, api.OK},
	} {
		i, e := memory.Find(row.samples, row.pattern, row.from, row.tolerance)
		same(t, "Find", i, e, row.wanted, row.e)
	}
}

// badPatterns returns patterns with an error.
func badPatterns() []bad[[]float32] {
	l := []bad[[]float32]{{nil, api.ErrEmpty}, {[]float32{}, api.ErrEmpty}, {make([]float32, 65), api.ErrMany}, {make([]float32, 4097), api.ErrMany}, {append(notFinite(), make([]float32, 61)...), api.ErrMany}}
	for _, f := range notFinite() {
		l = append(l, bad[[]float32]{[]float32{f}, api.ErrForm}, bad[[]float32]{append(make([]float32, 63), f), api.ErrForm})
	}
	return l
}

// P9.3: the errors of samples, patterns, indices and tolerances, in their order.
func TestFindErrors(t *testing.T) {
	check := func(samples, pattern []float32, from int, tolerance api.Rat, wantedError api.Errno) {
		t.Helper()
		i, e := memory.Find(samples, pattern, from, tolerance)
		same(t, "Find", i, e, 0, wantedError)
	}
	for _, b := range badSamples() {
		check(b.argument, []float32{0}, 0, "0", b.e)
		check(b.argument, nil, -1, "x", b.e)
	}
	for _, b := range badPatterns() {
		check(exampleSamples(), b.argument, 0, "0", b.e)
		check(exampleSamples(), b.argument, 8, "x", b.e)
		check(nil, b.argument, 0, "-1", b.e)
	}
	for _, from := range append(far(), 8) {
		for _, tolerance := range []api.Rat{"0", "-1", "x", nines(601)} {
			check(exampleSamples(), []float32{3}, from, tolerance, api.ErrRange)
		}
	}
	for _, b := range badNumbers() {
		check(exampleSamples(), []float32{3}, 0, b.argument, b.e)
		check(exampleSamples(), []float32{3}, 7, b.argument, b.e)
		check(nil, []float32{3}, 0, b.argument, b.e)
	}
	for _, tolerance := range []api.Rat{"-1", "-1/2", "-" + nines(600), "-1/" + nines(600)} {
		check(exampleSamples(), []float32{3}, 0, tolerance, api.ErrRange)
		check(nil, []float32{3}, 0, tolerance, api.ErrRange)
	}
}
