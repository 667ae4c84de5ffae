package memory

import (
	"iter"
	"slices"

	"strobe/api"
	"strobe/common"
	"strobe/number"
)

// columnRanges visits the beginnings and the ends of n columns of a range, from left to right.
func columnRanges(from, to, n int) iter.Seq2[int, int] {
	return func(yield func(int, int) bool) {
		length := to - from
		for j := range n {
			if !yield(from+j*length/n, from+(j+1)*length/n) {
				return
			}
		}
	}
}

// readRange returns the pyramid of samples and a tree, or the first error of both and of a range.
func readRange(samples []float32, t Tree, from, to int) (pyramid, api.Errno) {
	p, e := readPyramid(samples, t)
	return p, common.FirstError(e, checkRange(from, to, len(samples)))
}

// Extremes returns the least and the greatest sample of a range.
func Extremes(samples []float32, t Tree, from, to int) (Pair, api.Errno) {
	p, e := readRange(samples, t, from, to)
	if e := common.FirstError(e, common.ErrorIf(from == to, api.ErrEmpty)); e != api.OK {
		return Pair{}, e
	}
	return p.extremes(from, to), api.OK
}

// Zoom returns the pairs of the columns of a range.
func Zoom(samples []float32, t Tree, from, to, columns int) ([]Pair, api.Errno) {
	p, e := readRange(samples, t, from, to)
	if e := common.FirstError(e, checkColumns(columns), common.ErrorIf(to-from < columns, api.ErrShort)); e != api.OK {
		return nil, e
	}
	var pairs []Pair
	for begin, end := range columnRanges(from, to, columns) {
		pairs = append(pairs, p.extremes(begin, end))
	}
	return pairs, api.OK
}

// Count returns how many samples of a range are at least a level.
func Count(samples []float32, t Tree, from, to int, level float32) (int, api.Errno) {
	p, e := readRange(samples, t, from, to)
	if e := common.FirstError(e, checkFinite(level)); e != api.OK {
		return 0, e
	}
	return p.count(p.cover(from, to), level), api.OK
}

// Decimated returns the least and the greatest sample of each part, in their order.
func Decimated(samples []float32, parts int) ([]float32, api.Errno) {
	if e := common.FirstError(number.CheckSamples(samples), checkColumns(parts), common.ErrorIf(len(samples) < parts, api.ErrShort)); e != api.OK {
		return nil, e
	}
	var decimated []float32
	for begin, end := range columnRanges(0, len(samples), parts) {
		decimated = append(decimated, ordered(samples[begin:end])...)
	}
	return common.Transformed(decimated, common.PositiveZero), api.OK
}

// ordered returns the least and the greatest of some samples, at least one, in the order in which they first occur.
func ordered(samples []float32) []float32 {
	low, high := slices.Min(samples), slices.Max(samples)
	if slices.Index(samples, high) < slices.Index(samples, low) {
		return []float32{high, low}
	}
	return []float32{low, high}
}
