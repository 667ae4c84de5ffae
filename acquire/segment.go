package acquire

import (
	"iter"
	"slices"
	"strconv"

	"strobe/api"
	"strobe/common"
	"strobe/number"
)

// end returns the time after the last sample of a segment.
func (s Segment) end() int {
	return s.Start + len(s.Samples)
}

// endOf returns the end of the last segment, or 0 if there is none.
func endOf(l []Segment) int {
	if len(l) == 0 {
		return 0
	}
	return l[len(l)-1].end()
}

// visited visits segments in order, each with the end of the one before it (0 for the first one).
func visited(l []Segment) iter.Seq2[int, Segment] {
	return func(yield func(int, Segment) bool) {
		for i, s := range l {
			if !yield(endOf(l[:i]), s) {
				return
			}
		}
	}
}

// Cover returns the ranges of a stream that segments keep and lose.
func Cover(l []Segment, n int) ([]Range, api.Errno) {
	if e := common.FirstError(CheckSegments(l), common.InRange(n, 0, api.MaxNumber)); e != api.OK {
		return nil, e
	}
	if n < endOf(l) {
		return nil, api.ErrRange
	}
	var ranges []Range
	segment := 0
	for before, s := range visited(l) {
		segment++
		ranges = withLost(ranges, before, s.Start)
		ranges = append(ranges, Range{From: s.Start, To: s.end(), Segment: segment})
	}
	return withLost(ranges, endOf(l), n), api.OK
}

// withLost adds the range of lost samples between two times to ranges, if there are some.
func withLost(ranges []Range, from, to int) []Range {
	lost, none := Range{From: from, To: to}, Range{From: from, To: from}
	if lost == none {
		return ranges
	}
	return append(ranges, lost)
}

// byIndex returns for each index what a function makes of the samples of all segments at this index.
// There is at least one segment, and all of them have as many samples.
func byIndex[T any](l []Segment, combine func([]float32) T) []T {
	results := make([]T, len(l[0].Samples))
	for i := range results {
		results[i] = combine(common.Transformed(l, func(s Segment) float32 { return s.Samples[i] }))
	}
	return results
}

// Average returns the mean of segments, sample by sample.
func Average(l []Segment) ([]api.Rat, api.Errno) {
	if e := checkAlike(l); e != api.OK {
		return nil, e
	}
	return byIndex(l, mean), api.OK
}

// mean returns the mean of up to MaxSegments samples. It has far fewer digits than a number may have,
// as a sample is a multiple of 2 to the power of -149 below 2 to the power of 128: there is no error.
func mean(samples []float32) api.Rat {
	sum := api.Rat("0")
	for _, sample := range samples {
		value, _ := number.Exact(sample)
		sum, _ = number.Add(sum, value)
	}
	quotient, _ := number.Div(sum, api.Rat(strconv.Itoa(len(samples))))
	return quotient
}

// Envelope returns the least and the greatest samples of segments.
func Envelope(l []Segment) ([]float32, []float32, api.Errno) {
	if e := checkAlike(l); e != api.OK {
		return nil, nil, e
	}
	return byIndex(l, least), byIndex(l, greatest), api.OK
}

// least returns the least of some samples.
func least(samples []float32) float32 {
	return common.PositiveZero(slices.Min(samples))
}

// greatest returns the greatest of some samples.
func greatest(samples []float32) float32 {
	return common.PositiveZero(slices.Max(samples))
}

// Align returns the pairs of segments of two channels with the nearest triggers.
func Align(a, b []Segment, most int) ([][2]int, api.Errno) {
	e := common.FirstError(CheckSegments(a), CheckSegments(b), common.InRange(most, 0, api.MaxNumber))
	if e != api.OK || len(b) == 0 {
		return nil, e
	}
	var pairs [][2]int
	for i, s := range a {
		nearest, difference := nearestTo(s.Trigger, b)
		if difference <= most {
			pairs = append(pairs, [2]int{i, nearest})
		}
	}
	return pairs, api.OK
}

// nearestTo returns the index of the first segment whose trigger differs least from a time, and the difference.
// There is at least one segment.
func nearestTo(time int, l []Segment) (int, int) {
	nearest, least := 0, distance(time, l[0].Trigger)
search:
	for i, s := range l {
		switch difference := distance(time, s.Trigger); {
		case difference < least:
			nearest, least = i, difference
		case difference > least:
			// Triggers ascend: after the nearest one the differences only grow.
			break search
		}
	}
	return nearest, least
}

// distance returns the difference of two times.
func distance(a, b int) int {
	return max(a, b) - min(a, b)
}
