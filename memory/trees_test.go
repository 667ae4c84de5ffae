package memory_test

import (
	"slices"
	"testing"

	"strobe/api"
	"strobe/memory"
)

// P9.1: the examples 1 and 2 of the chapter.
func TestTreeExamples(t *testing.T) {
	tree, e := memory.Build(exampleSamples(), 2)
	sameTree(t, "Build", tree, e, exampleTree(), api.OK)
	longer := exampleTree()
	longer.Levels[0][3].High = 6
	samples, tree, e := memory.Append(exampleSamples(), exampleTree(), []float32{6})
	sameFloats(t, "Append", samples, e, append(exampleSamples(), 6), api.OK)
	sameTree(t, "Append", tree, e, longer, api.OK)
	nodes, e := memory.Cover(2, 7, 1, 7)
	sameList(t, "Cover", nodes, e, []memory.Node{{Level: -1, Index: 1}, {Level: 0, Index: 1}, {Level: 1, Index: 1}}, api.OK)
}

// sizes returns numbers of samples at which pyramids become higher, and others.
func sizes() []int {
	l := []int{255, 256, 257, 511, 512, 513, 767, 768, 769, 1000, 2048, 2049, 4095, 4096}
	for n := range 40 {
		l = append(l, n)
	}
	return l
}

// P9.1: the pyramids of samples are those of the definition, and CheckTree accepts them.
func TestBuild(t *testing.T) {
	r := source(1)
	for _, n := range sizes() {
		for _, block := range []int{1, 2, 3, 4, 5, 7, 8, 16, 100, 255, 256} {
			samples := anySamples(r, n)
			unchanged(t, samples, func(samples []float32) {
				tree, e := memory.Build(samples, block)
				sameTree(t, "Build", tree, e, referenceTree(samples, block), api.OK)
				isError(t, "CheckTree", memory.CheckTree(samples, tree), api.OK)
			})
			isError(t, "CheckTree", memory.CheckTree(samples, treeOf(t, samples, block, true)), api.OK)
		}
	}
}

// P9.1: the least and the greatest numbers of levels.
func TestHeights(t *testing.T) {
	for _, row := range []struct{ n, block, levels int }{
		{0, 1, 0}, {0, 256, 0}, {1, 1, 1}, {1, 256, 1}, {2, 1, 2}, {2, 2, 1}, {3, 2, 2}, {256, 256, 1}, {257, 256, 2}, {512, 256, 2}, {513, 256, 3}, {4096, 256, 5}, {4096, 1, 13}, {4095, 1, 13}, {2049, 1, 13}, {2048, 1, 12},
	} {
		tree, e := memory.Build(make([]float32, row.n), row.block)
		same(t, "Build: the number of levels", len(tree.Levels), e, row.levels, api.OK)
		same(t, "Build: the block size", tree.Block, e, row.block, api.OK)
	}
}

// P9.1: the errors of samples and block sizes, in their order.
func TestBuildErrors(t *testing.T) {
	for _, b := range badSamples() {
		for _, block := range append(badBlocks(), 1, 2, 256) {
			tree, e := memory.Build(b.argument, block)
			sameTree(t, "Build", tree, e, memory.Tree{}, b.e)
		}
	}
	for _, block := range badBlocks() {
		for _, samples := range [][]float32{nil, {1}, exampleSamples(), make([]float32, 4096)} {
			tree, e := memory.Build(samples, block)
			sameTree(t, "Build", tree, e, memory.Tree{}, api.ErrRange)
		}
	}
}

// P9.1: the errors of samples and trees, in their order.
func TestCheckTreeErrors(t *testing.T) {
	for _, b := range badSamples() {
		for _, tree := range []memory.Tree{{}, {Block: 2}, exampleTree()} {
			isError(t, "CheckTree", memory.CheckTree(b.argument, tree), b.e)
		}
	}
	for _, b := range badTrees() {
		isError(t, "CheckTree", memory.CheckTree(exampleSamples(), b.argument), b.e)
	}
	isError(t, "CheckTree", memory.CheckTree(exampleSamples(), exampleTree()), api.OK)
	isError(t, "CheckTree", memory.CheckTree(nil, memory.Tree{Block: 1}), api.OK)
	isError(t, "CheckTree", memory.CheckTree(nil, memory.Tree{Block: 1, Levels: [][]memory.Pair{}}), api.OK)
	isError(t, "CheckTree", memory.CheckTree(nil, memory.Tree{Block: 1, Levels: [][]memory.Pair{{}}}), api.ErrShape)
	isError(t, "CheckTree", memory.CheckTree(nil, memory.Tree{Block: 257, Levels: [][]memory.Pair{{}}}), api.ErrRange)
}

// P9.1: the pyramid of other samples is none of the samples.
func TestForeignTrees(t *testing.T) {
	r := source(2)
	found := map[api.Errno]int{}
	for range 2000 {
		n, block := r.Intn(30), 1+r.Intn(5)
		samples, others := anySamples(r, n), anySamples(r, max(0, n+r.Intn(3)-1))
		if r.Intn(2) == 0 && n > 0 {
			others = slices.Clone(samples)
			others[r.Intn(n)] = float32(r.Intn(9))
		}
		tree, wanted := referenceTree(others, block), referenceTree(samples, block)
		wantedError := api.OK
		isAsLong := func(a, b []memory.Pair) bool { return len(a) == len(b) }
		switch {
		case !slices.EqualFunc(tree.Levels, wanted.Levels, isAsLong):
			wantedError = api.ErrShape
		case !slices.EqualFunc(tree.Levels, wanted.Levels, slices.Equal[[]memory.Pair]):
			wantedError = api.ErrProof
		}
		isError(t, "CheckTree", memory.CheckTree(samples, tree), wantedError)
		found[wantedError]++
	}
	decided(t, "CheckTree", found, api.OK, api.ErrShape, api.ErrProof)
}

// P9.1: the errors of samples, trees and further samples, in their order.
func TestAppendErrors(t *testing.T) {
	check := func(samples []float32, tree memory.Tree, more []float32, wantedError api.Errno) {
		t.Helper()
		longer, longerTree, e := memory.Append(samples, tree, more)
		sameFloats(t, "Append", longer, e, nil, wantedError)
		sameTree(t, "Append", longerTree, e, memory.Tree{}, wantedError)
	}
	for _, b := range badSamples() {
		check(b.argument, exampleTree(), notFinite(), b.e)
		check(exampleSamples(), exampleTree(), b.argument, b.e)
		for _, tree := range badTrees() {
			check(exampleSamples(), tree.argument, b.argument, tree.e)
		}
	}
	for _, b := range badTrees() {
		check(exampleSamples(), b.argument, []float32{1}, b.e)
		check(exampleSamples(), b.argument, nil, b.e)
	}
	full := make([]float32, 4096)
	check(full, treeOf(t, full, 16, false), []float32{0}, api.ErrMany)
	check(full[:4095], treeOf(t, full[:4095], 16, false), []float32{0, 0}, api.ErrMany)
	check(full[:1], treeOf(t, full[:1], 16, false), full, api.ErrMany)
	check(full, treeOf(t, full, 16, false), notFinite(), api.ErrForm)
	check(exampleSamples(), exampleTree(), full, api.ErrMany)
}

// P9.1: the samples followed by further ones, and their pyramid; results share no memory with arguments.
func TestAppend(t *testing.T) {
	r := source(3)
	for i := range 300 {
		samples, more, block := anySamples(r, r.Intn(40)), anySamples(r, r.Intn(40)), anyBlock(r)
		if i < 5 {
			samples = anySamples(r, 4000)
			more = anySamples(r, []int{96, 95, 1, 0, 50}[i])
		}
		tree := treeOf(t, samples, block, true)
		all := slices.Concat(samples, more)
		// The arguments have room for further elements.
		samples, more = slices.Grow(samples, 100), slices.Grow(more, 100)
		unchanged(t, samples, func(samples []float32) {
			unchanged(t, more, func(more []float32) {
				longer, longerTree, e := memory.Append(samples, tree, more)
				sameFloats(t, "Append", longer, e, all, api.OK)
				sameTree(t, "Append", longerTree, e, referenceTree(all, block), api.OK)
				clear(longer)
				for _, level := range longerTree.Levels {
					clear(level)
				}
			})
		})
		isError(t, "CheckTree", memory.CheckTree(samples, tree), api.OK)
	}
}

// P9.1: all covers of small pyramids.
func TestCovers(t *testing.T) {
	for _, block := range []int{1, 2, 3, 4, 5, 9} {
		for n := range 27 {
			for from := range n + 1 {
				for to := from; to <= n; to++ {
					nodes, e := memory.Cover(block, n, from, to)
					sameList(t, "Cover", nodes, e, referenceCover(block, n, from, to), api.OK)
				}
			}
		}
	}
}

// P9.1: covers of large pyramids.
func TestLargeCovers(t *testing.T) {
	r := source(4)
	for range 400 {
		block, n := 1+r.Intn(256), r.Intn(4097)
		from, to := anyRange(r, n)
		if r.Intn(4) == 0 {
			to = n
		}
		if block < 8 && to-from > 300 {
			to = from + 300
		}
		nodes, e := memory.Cover(block, n, from, to)
		sameList(t, "Cover", nodes, e, referenceCover(block, n, from, to), api.OK)
	}
	for _, n := range sizes()[1:] {
		for _, block := range []int{1, 2, 3, 255, 256} {
			tree := treeOf(t, make([]float32, n), block, false)
			wanted := []memory.Node{{Level: len(tree.Levels) - 1, Index: 0}}
			if n == 0 {
				wanted = nil
			}
			nodes, e := memory.Cover(block, n, 0, n)
			sameList(t, "Cover", nodes, e, wanted, api.OK)
		}
	}
}

// P9.1: the errors of covers, in their order.
func TestCoverErrors(t *testing.T) {
	check := func(block, n, from, to int, wantedError api.Errno) {
		t.Helper()
		nodes, e := memory.Cover(block, n, from, to)
		sameList(t, "Cover", nodes, e, nil, wantedError)
	}
	for _, block := range badBlocks() {
		check(block, 7, 0, 7, api.ErrRange)
		check(block, 7, 7, 0, api.ErrRange)
		check(block, -1, 0, 0, api.ErrRange)
	}
	for _, n := range far() {
		check(2, n, 0, 0, api.ErrRange)
		check(2, n, 1, 0, api.ErrRange)
		check(2, n, n, n, api.ErrRange)
	}
	for _, b := range badRanges() {
		check(2, 7, b.argument[0], b.argument[1], b.e)
	}
	check(2, 0, 0, 0, api.OK)
	check(2, 4096, 4096, 4096, api.OK)
	check(2, 4096, 4097, 4096, api.ErrRange)
	check(2, 0, 0, 1, api.ErrRange)
}

// P9.1: results share no memory with each other or with arguments.
func TestTreesAreNew(t *testing.T) {
	samples := exampleSamples()
	first, _ := memory.Build(samples, 1)
	second, e := memory.Build(samples, 1)
	for i := range first.Levels {
		for k := range first.Levels[i] {
			first.Levels[i][k] = memory.Pair{Low: -9, High: 99}
		}
		// No level has room for the pairs of another one.
		first.Levels[i] = append(first.Levels[i], memory.Pair{Low: -9, High: 99})
		for _, level := range first.Levels[i+1:] {
			if slices.Contains(level, memory.Pair{Low: -9, High: 99}) {
				t.Error("levels share memory")
			}
		}
	}
	sameTree(t, "Build", second, e, referenceTree(samples, 1), api.OK)
	sameFloats(t, "the samples", samples, api.OK, exampleSamples(), api.OK)
	nodes, _ := memory.Cover(2, 7, 1, 7)
	clear(nodes)
	nodes, e = memory.Cover(2, 7, 1, 7)
	sameList(t, "Cover", nodes, e, []memory.Node{{Level: -1, Index: 1}, {Level: 0, Index: 1}, {Level: 1, Index: 1}}, api.OK)
}
