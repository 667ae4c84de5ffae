package memory

import (
	"slices"

	"strobe/api"
	"strobe/common"
	"strobe/number"
)

// pairOf returns the pair of one sample.
func pairOf(sample float32) Pair {
	value := common.PositiveZero(sample)
	return Pair{value, value}
}

// with returns the pair of the samples of both pairs.
func (p Pair) with(q Pair) Pair {
	return Pair{min(p.Low, q.Low), max(p.High, q.High)}
}

// check returns ErrForm if a number of a pair is not finite.
func (p Pair) check() api.Errno {
	return checkFinite(p.Low, p.High)
}

// joined returns, for each n consecutive elements of a list, what they are when they are joined; the last ones may be fewer.
func joined[T any](list []T, n int, join func(T, T) T) []T {
	var results []T
	for part := range slices.Chunk(list, n) {
		results = append(results, common.Folded(join, part))
	}
	return results
}

// Build returns the pyramid of samples.
func Build(samples []float32, block int) (Tree, api.Errno) {
	if e := common.FirstError(number.CheckSamples(samples), checkBlock(block)); e != api.OK {
		return Tree{}, e
	}
	t := Tree{Block: block}
	pairs, size := common.Transformed(samples, pairOf), block
	for range (layout{block, len(samples)}).levels() {
		pairs = joined(pairs, size, Pair.with)
		t.Levels = append(t.Levels, pairs)
		size = 2
	}
	return t, api.OK
}

// mismatch returns the error of a tree that should be another one, which has the same block size.
func (t Tree) mismatch(wanted Tree) api.Errno {
	isAsLong := func(a, b []Pair) bool { return len(a) == len(b) }
	if !slices.EqualFunc(t.Levels, wanted.Levels, isAsLong) {
		return api.ErrShape
	}
	pairs, wantedPairs := slices.Concat(t.Levels...), slices.Concat(wanted.Levels...)
	// A number that is not finite counts before a wrong pair, wherever both are.
	if e := common.FirstError(common.Transformed(pairs, Pair.check)...); e != api.OK {
		return e
	}
	return common.ErrorIf(!slices.Equal(pairs, wantedPairs), api.ErrProof)
}

// CheckTree returns OK for the pyramid of samples.
func CheckTree(samples []float32, t Tree) api.Errno {
	_, e := readPyramid(samples, t)
	return e
}

// Append returns the samples with further ones, and their pyramid.
func Append(samples []float32, t Tree, more []float32) ([]float32, Tree, api.Errno) {
	length := len(samples) + len(more)
	if e := common.FirstError(CheckTree(samples, t), number.CheckSamples(more), common.ErrorIf(length > api.MaxSamples, api.ErrMany)); e != api.OK {
		return nil, Tree{}, e
	}
	extended := make([]float32, length)
	copy(extended[copy(extended, samples):], more)
	extended = common.Transformed(extended, common.PositiveZero)
	longer, e := Build(extended, t.Block)
	return extended, longer, e
}
