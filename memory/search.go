package memory

import (
	"slices"

	"strobe/api"
	"strobe/common"
	"strobe/number"
	"strobe/rational"
)

// reaches returns the condition that a sample is at least a level.
func reaches(level float32) func(Pair) bool {
	return func(p Pair) bool { return p.High >= level }
}

// isBelow returns the condition that a sample is below a level.
func isBelow(level float32) func(Pair) bool {
	return func(p Pair) bool { return p.Low < level }
}

// readSearch returns the pyramid in which a search begins, or the first error of its arguments.
func readSearch(samples []float32, t Tree, from int, level float32) (pyramid, api.Errno) {
	p, e := readPyramid(samples, t)
	return p, common.FirstError(e, common.InRange(from, 0, len(samples)), checkFinite(level))
}

// Next returns the first index from which on a sample is at least a level.
func Next(samples []float32, t Tree, from int, level float32) (int, api.Errno) {
	p, e := readSearch(samples, t, from, level)
	if e != api.OK {
		return 0, e
	}
	return p.first(from, reaches(level))
}

// Edge returns the index of the next rising edge.
func Edge(samples []float32, t Tree, from int, level float32) (int, api.Errno) {
	p, e := readSearch(samples, t, from, level)
	if e != api.OK {
		return 0, e
	}
	// The sample before an edge may be the one before the first index.
	low, e := p.first(max(from-1, 0), isBelow(level))
	if e != api.OK {
		return 0, e
	}
	return p.first(low+1, reaches(level))
}

// Longest returns the longest run of samples that are at least a level.
func Longest(samples []float32, level float32) ([2]int, api.Errno) {
	if e := common.FirstError(number.CheckSamples(samples), checkFinite(level)); e != api.OK {
		return [2]int{}, e
	}
	var longest [2]int
	from := 0
	for i, sample := range samples {
		if sample < level {
			from = i + 1
		}
		if i+1-from > longest[1]-longest[0] {
			longest = [2]int{from, i + 1}
		}
	}
	return longest, common.ErrorIf(longest[0] == longest[1], api.ErrNone)
}

// Peak returns the index of the first greatest sample.
func Peak(samples []float32, t Tree) (int, api.Errno) {
	p, e := readPyramid(samples, t)
	if e := common.FirstError(e, common.ErrorIf(len(samples) == 0, api.ErrEmpty)); e != api.OK {
		return 0, e
	}
	return p.first(0, reaches(p.extremes(0, p.length).High))
}

// checkPattern returns the error of a pattern.
func checkPattern(pattern []float32) api.Errno {
	if e := common.FirstError(common.ErrorIf(len(pattern) == 0, api.ErrEmpty), common.AtMost(pattern, MaxPattern)); e != api.OK {
		return e
	}
	return checkFinite(pattern...)
}

// Find returns the first index at which samples are near to a pattern.
func Find(samples, pattern []float32, from int, tolerance api.Rat) (int, api.Errno) {
	radius, errTolerance := rational.ReadSigned(tolerance, 0)
	errFrom := common.InRange(from, 0, len(samples))
	if e := common.FirstError(number.CheckSamples(samples), checkPattern(pattern), errFrom, errTolerance); e != api.OK {
		return 0, e
	}
	values := common.Transformed(samples, rational.Exact)
	ranges := common.Transformed(pattern, func(sample float32) rational.Interval {
		return rational.Around(rational.Exact(sample), radius)
	})
	for end := from + len(ranges); end <= len(values); end++ {
		if begin := end - len(ranges); slices.EqualFunc(ranges, values[begin:end], contains) {
			return begin, api.OK
		}
	}
	return 0, api.ErrNone
}

// contains reports whether a number is in an interval.
func contains(within rational.Interval, x rational.Number) bool {
	return within.Contains(rational.Interval{Low: x, High: x})
}
