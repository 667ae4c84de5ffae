package measure

import (
	"maps"
	"slices"
	"sort"

	"strobe/api"
	"strobe/common"
	"strobe/number"
	"strobe/rational"
)

// Histogram returns the number of samples in each bin.
func Histogram(s []float32, low, high api.Rat, bins int) ([]int, api.Errno) {
	between, e := readThresholds(s, low, high)
	if e := common.FirstError(e, common.InRange(bins, 1, MaxBins)); e != api.OK {
		return nil, e
	}
	edges := innerEdges(between, bins)
	counts := make([]int, bins)
	for x := range values(s) {
		if x.Compare(between.Low) >= 0 && x.Compare(between.High) <= 0 {
			counts[sort.Search(len(edges), func(k int) bool { return edges[k].Compare(x) > 0 })]++
		}
	}
	return counts, api.OK
}

// innerEdges returns where the bins begin into which an interval is divided, but for the first one.
func innerEdges(between rational.Interval, bins int) []rational.Number {
	width := between.High.Minus(between.Low).Over(rational.Of(bins))
	edges := make([]rational.Number, bins-1)
	for k := range edges {
		edges[k] = between.Low.Plus(width.Times(rational.Of(k + 1)))
	}
	return edges
}

// FindLevels returns the base level and the top level of a record.
func FindLevels(s []float32) (Levels, api.Errno) {
	if e := checkFilled(s); e != api.OK {
		return Levels{}, e
	}
	counts := map[float32]int{}
	for _, sample := range s {
		counts[sample]++
	}
	if len(counts) == 1 {
		return Levels{}, api.ErrNone
	}
	between := extremes(s)
	middle := between.Low.Plus(between.High).Over(rational.Of(2))
	sorted := slices.Sorted(maps.Keys(counts))
	above := sort.Search(len(sorted), func(i int) bool { return rational.Exact(sorted[i]).Compare(middle) > 0 })
	lower, upper := sorted[:above], sorted[above:]
	slices.Reverse(upper)
	base, errBase := number.Exact(mostFrequent(lower, counts))
	top, errTop := number.Exact(mostFrequent(upper, counts))
	if e := common.FirstError(errBase, errTop); e != api.OK {
		return Levels{}, e
	}
	return Levels{Base: base, Top: top}, api.OK
}

// mostFrequent returns the first one of the samples with the greatest count.
func mostFrequent(samples []float32, counts map[float32]int) float32 {
	return slices.MaxFunc(samples, func(a, b float32) int { return counts[a] - counts[b] })
}

// Range returns the interval from the minimum to the maximum of a record.
func Range(s []float32) (api.Span, api.Errno) {
	if e := checkFilled(s); e != api.OK {
		return api.Span{}, e
	}
	return extremes(s).Write()
}

// Mean returns the arithmetic mean of a record.
func Mean(s []float32) (api.Rat, api.Errno) {
	if e := checkFilled(s); e != api.OK {
		return "", e
	}
	return summaryOf(s).mean().Write()
}

// Power returns the mean of the squares of a record.
func Power(s []float32) (api.Rat, api.Errno) {
	if e := checkFilled(s); e != api.OK {
		return "", e
	}
	return summaryOf(s).power().Write()
}
