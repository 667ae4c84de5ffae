package memory_test

import (
	"math"
	"slices"
	"testing"

	"strobe/api"
	"strobe/memory"
)

// P9.6: each sample of a column is between the samples of its pair, both are reached, and the columns share out the samples.
func TestColumns(t *testing.T) {
	r := source(50)
	for range 150 {
		samples := anySamples(r, 1+r.Intn(200))
		tree := treeOf(t, samples, anyBlock(r), true)
		from, to := anyRange(r, len(samples))
		if from == to {
			continue
		}
		columns := 1 + r.Intn(to-from)
		pairs, e := memory.Zoom(samples, tree, from, to, columns)
		isError(t, "Zoom", e, api.OK)
		same(t, "the number of pairs", len(pairs), e, columns, api.OK)
		at := from
		for i, ends := range referenceColumns(from, to, columns) {
			same(t, "the beginning of a column", ends[0], api.OK, at, api.OK)
			at = ends[1]
			pair, e := memory.Extremes(samples, tree, ends[0], ends[1])
			same(t, "Extremes", pair, e, pairs[i], api.OK)
			column := samples[ends[0]:ends[1]]
			isOutside := func(f float32) bool { return f < pair.Low || f > pair.High }
			if slices.ContainsFunc(column, isOutside) || !slices.Contains(column, pair.Low) || !slices.Contains(column, pair.High) {
				t.Errorf("the samples %v have the pair %v", column, pair)
			}
		}
		same(t, "the end of the last column", at, api.OK, to, api.OK)
	}
}

// P9.6: the samples that Decimated returns are those of the zoom of all samples.
func TestDecimatedZoom(t *testing.T) {
	r := source(51)
	for range 200 {
		samples := anySamples(r, 1+r.Intn(100))
		parts := 1 + r.Intn(len(samples))
		pairs, e := memory.Zoom(samples, treeOf(t, samples, anyBlock(r), false), 0, len(samples), parts)
		isError(t, "Zoom", e, api.OK)
		decimated, e := memory.Decimated(samples, parts)
		same(t, "the number of samples", len(decimated), e, 2*parts, api.OK)
		for i, pair := range pairs {
			both := decimated[2*i : 2*i+2]
			same(t, "two samples", memory.Pair{Low: min(both[0], both[1]), High: max(both[0], both[1])}, e, pair, api.OK)
		}
	}
}

// P9.6: a pyramid that is extended, in pieces of any size, is the pyramid of all samples.
func TestPieces(t *testing.T) {
	r := source(52)
	for i := range 60 {
		n, most := r.Intn(200), 1+r.Intn(9)
		if i < 5 {
			n, most = 4096, 1+r.Intn(1000)
		}
		all, block := anySamples(r, n), anyBlock(r)
		samples, tree := []float32{}, memory.Tree{Block: block}
		for len(samples) < n {
			to := min(n, len(samples)+r.Intn(most+1))
			longer, longerTree, e := memory.Append(samples, tree, all[len(samples):to])
			isError(t, "Append", e, api.OK)
			samples, tree = longer, longerTree
		}
		whole, e := memory.Build(all, block)
		sameTree(t, "Append", tree, e, whole, api.OK)
		sameFloats(t, "Append", samples, e, all, api.OK)
	}
}

// P9.6: a cover has each index once, at most 2 (B - 1) samples, and at most two nodes of each level.
func TestCoversShareOut(t *testing.T) {
	r := source(53)
	for i := range 3000 {
		block, n := anyBlock(r), r.Intn(4097)
		if i%3 == 0 {
			n = r.Intn(70)
		}
		from, to := anyRange(r, n)
		nodes, e := memory.Cover(block, n, from, to)
		isError(t, "Cover", e, api.OK)
		counts := map[int]int{}
		at := from
		for _, node := range nodes {
			counts[node.Level]++
			begin, size := node.Index, 1
			if node.Level >= 0 {
				size = block << node.Level
				begin = node.Index * size
			}
			same(t, "the beginning of a node", begin, api.OK, at, api.OK)
			at = min(begin+size, n)
		}
		same(t, "the end of the last node", at, api.OK, to, api.OK)
		for level, count := range counts {
			if level == -1 && count > 2*(block-1) || level >= 0 && count > 2 {
				t.Errorf("Cover %d, %d, %d, %d: %d nodes of the level %d", block, n, from, to, count, level)
			}
		}
	}
}

// P9.6: edges are the beginnings of runs after the first sample, and Count counts what Next finds.
func TestSearchesFindAll(t *testing.T) {
	r := source(54)
	for range 200 {
		samples := anySamples(r, r.Intn(60))
		n := len(samples)
		tree, level := treeOf(t, samples, anyBlock(r), true), anyLevel(r, samples)
		var found, edges []int
		for from := 0; ; {
			i, e := memory.Next(samples, tree, from, level)
			if e == api.ErrNone {
				break
			}
			found, from = append(found, i), i+1
		}
		for from := 0; ; {
			i, e := memory.Edge(samples, tree, from, level)
			if e == api.ErrNone {
				break
			}
			edges, from = append(edges, i), i+1
		}
		count, e := memory.Count(samples, tree, 0, n, level)
		same(t, "Count", count, e, len(found), api.OK)
		var wanted []int
		for k, i := range found {
			if i > 0 && (k == 0 || found[k-1] < i-1) {
				wanted = append(wanted, i)
			}
		}
		sameList(t, "the edges", edges, api.OK, wanted, api.OK)
		ends, e := memory.Longest(samples, level)
		same(t, "Longest: an error", e == api.OK, api.OK, len(found) > 0, api.OK)
		if e == api.OK && (slices.Contains(found, ends[0]-1) || slices.Contains(found, ends[1]) || referenceCount(samples, ends[0], ends[1], level) != ends[1]-ends[0]) {
			t.Errorf("%v are not a run at %v of %v", ends, level, samples)
		}
		if n == 0 {
			continue
		}
		peak, e := memory.Peak(samples, tree)
		same(t, "Peak", samples[peak], e, slices.Max(samples), api.OK)
		i, e := memory.Find(samples, samples[peak:peak+1], 0, "0")
		same(t, "Find", i, e, peak, api.OK)
	}
}

// P9.6: the numbers of a histogram add up to the number of samples, and are what Count finds.
func TestHistogramsAddUp(t *testing.T) {
	r := source(55)
	for range 200 {
		samples, limits := anySamples(r, r.Intn(500)), anySamples(r, 1+r.Intn(64))
		slices.Sort(limits)
		limits = slices.Compact(limits)
		counts, e := memory.Histogram(samples, limits)
		same(t, "the number of bins", len(counts), e, len(limits)+1, api.OK)
		tree := treeOf(t, samples, anyBlock(r), false)
		rest := len(samples)
		for i, limit := range limits {
			rest -= counts[i]
			n, e := memory.Count(samples, tree, 0, len(samples), limit)
			same(t, "Count", n, e, rest, api.OK)
		}
		same(t, "the last number", counts[len(limits)], e, rest, api.OK)
	}
}

// P9.6: codes and words are unpacked as they were packed.
func TestUnpackedAsPacked(t *testing.T) {
	r := source(56)
	for i := range 500 {
		n := r.Intn(50)
		if i < 10 {
			n = 4096 - r.Intn(2)
		}
		codes := anyCodes(r, n)
		data, e := memory.Pack(codes)
		sameList(t, "Pack", data, e, referencePack(codes), api.OK)
		again, e := memory.Unpack(data)
		sameList(t, "Unpack", again, e, codes, api.OK)
		var words []uint16
		for len(words) < n {
			words = append(words, slices.Repeat([]uint16{uint16(r.Intn(3) * r.Intn(30000))}, 1+r.Intn(300))...)
		}
		words = words[:n]
		data, e = memory.PackWords(words)
		sameList(t, "PackWords", data, e, referencePackWords(words), api.OK)
		back, e := memory.UnpackWords(data)
		sameList(t, "UnpackWords", back, e, words, api.OK)
	}
}

// P9.6: data that can be unpacked are what their codes or words are packed to.
func TestPackedAsUnpacked(t *testing.T) {
	r := source(57)
	found := map[bool]int{}
	for range 5000 {
		data := make([]byte, r.Intn(9))
		for i := range data {
			data[i] = []byte{0, 1, 2, 3, 63, 127, 128, byte(r.Intn(256))}[r.Intn(8)]
		}
		codes, e := memory.Unpack(data)
		found[e == api.OK]++
		if e == api.OK {
			again, e := memory.Pack(codes)
			sameList(t, "Pack", again, e, data, api.OK)
		}
		words, e := memory.UnpackWords(data)
		if e == api.OK {
			again, e := memory.PackWords(words)
			sameList(t, "PackWords", again, e, data, api.OK)
		}
	}
	decided(t, "Unpack", found, true, false)
}

// P1: no function panics, whatever its arguments are.
func TestArbitraryArguments(t *testing.T) {
	r := source(58)
	good := true
	integer := func() int { return append(far(), 0, 1, 2, 3, 6, 7, 8, 256, 2048)[r.Intn(16)] }
	float := func() float32 {
		l := append(notFinite(), negativeZero(), math.MaxFloat32, -math.MaxFloat32, math.SmallestNonzeroFloat32, 1, float32(r.NormFloat64()))
		return l[r.Intn(len(l))]
	}
	floats := func(most int) []float32 {
		l := anySamples(r, r.Intn(most+1))
		if !good && len(l) > 0 {
			l[r.Intn(len(l))] = float()
		}
		return l
	}
	tree := func(samples []float32) memory.Tree {
		t, e := memory.Build(samples, 1+r.Intn(5))
		if good && e == api.OK {
			return t
		}
		t = memory.Tree{Block: integer(), Levels: append(t.Levels, make([][]memory.Pair, r.Intn(3))...)}
		for i := range t.Levels {
			for range r.Intn(3) {
				t.Levels[i] = append(t.Levels[i], memory.Pair{Low: float(), High: float()})
			}
		}
		return t
	}
	for range 10000 {
		good = r.Intn(2) == 0
		samples := floats(8)
		x, from, to, level := tree(samples), integer(), integer(), float()
		data := make([]byte, r.Intn(10))
		for i := range data {
			data[i] = byte(r.Intn(256))
		}
		memory.Build(samples, integer())
		memory.CheckTree(samples, x)
		memory.Append(samples, x, floats(8))
		memory.Cover(integer(), integer(), from, to)
		memory.Extremes(samples, x, from, to)
		memory.Zoom(samples, x, from, to, integer())
		memory.Next(samples, x, from, level)
		memory.Edge(samples, x, from, level)
		memory.Longest(samples, level)
		memory.Peak(samples, x)
		memory.Count(samples, x, from, to, level)
		memory.Histogram(samples, floats(3))
		memory.Find(samples, floats(3), from, []api.Rat{"", "x", "0", "1", "-1/2", "7/3", nines(600), nines(601), "1/0", api.Rat([]byte{byte(r.Intn(256))})}[r.Intn(10)])
		memory.Decimated(samples, integer())
		memory.Pack([]int{integer(), integer()})
		memory.Unpack(data)
		memory.PackWords([]uint16{uint16(r.Intn(65536)), uint16(r.Intn(3))})
		memory.UnpackWords(data)
	}
}
