package memory_test

import (
	"math"
	"slices"
	"testing"

	"strobe/api"
	"strobe/memory"
)

// P9.4: the example 5 of the chapter.
func TestHistogramExample(t *testing.T) {
	counts, e := memory.Histogram(exampleSamples(), []float32{2, 4})
	sameList(t, "Histogram", counts, e, []int{2, 2, 3}, api.OK)
}

// P9.4: samples at limits and beside them.
func TestLimits(t *testing.T) {
	most, least := float32(math.MaxFloat32), float32(math.SmallestNonzeroFloat32)
	for _, row := range []struct {
		samples, limits []float32
		counts          []int
	}{
		{nil, []float32{0}, []int{0, 0}}, {nil, make64(), make([]int, 65)}, {[]float32{0}, []float32{0}, []int{0, 1}}, {[]float32{0}, []float32{negativeZero()}, []int{0, 1}}, {[]float32{negativeZero()}, []float32{0}, []int{0, 1}}, {[]float32{-least, negativeZero(), least}, []float32{0}, []int{1, 2}},
		{[]float32{-least, negativeZero(), 0, least}, []float32{negativeZero(), least}, []int{1, 2, 1}}, {[]float32{-most, most, 0}, []float32{-most, most}, []int{0, 2, 1}}, {[]float32{below(1), 1, above(1), below(2), 2, 3}, []float32{1, 2}, []int{1, 3, 2}}, {make([]float32, 4096), []float32{-1, 0, 1}, []int{0, 0, 4096, 0}},
	} {
		unchanged(t, row.samples, func(samples []float32) {
			unchanged(t, row.limits, func(limits []float32) {
				counts, e := memory.Histogram(samples, limits)
				sameList(t, "Histogram", counts, e, row.counts, api.OK)
			})
		})
	}
}

// make64 returns 64 limits.
func make64() []float32 {
	limits := make([]float32, 64)
	for i := range limits {
		limits[i] = float32(i)
	}
	return limits
}

// P9.4: random samples and limits.
func TestHistograms(t *testing.T) {
	r := source(30)
	for range 1500 {
		samples := anySamples(r, r.Intn(60))
		limits := slices.Concat(anySamples(r, 1+r.Intn(30)), samples[:min(len(samples), r.Intn(30))])
		slices.Sort(limits)
		limits = slices.Compact(limits)
		counts, e := memory.Histogram(samples, limits)
		sameList(t, "Histogram", counts, e, referenceHistogram(samples, limits), api.OK)
	}
}

// P9.4: the errors of samples and limits, in their order.
func TestHistogramErrors(t *testing.T) {
	check := func(samples, limits []float32, wantedError api.Errno) {
		t.Helper()
		counts, e := memory.Histogram(samples, limits)
		sameList(t, "Histogram", counts, e, nil, wantedError)
	}
	for _, b := range badSamples() {
		check(b.argument, []float32{0}, b.e)
		check(b.argument, nil, b.e)
		check(b.argument, notFinite(), b.e)
	}
	check(nil, nil, api.ErrEmpty)
	check(exampleSamples(), []float32{}, api.ErrEmpty)
	check(exampleSamples(), append(make64(), 64), api.ErrMany)
	check(exampleSamples(), append(make64(), notFinite()...), api.ErrMany)
	for _, f := range notFinite() {
		check(exampleSamples(), []float32{f}, api.ErrForm)
		check(exampleSamples(), []float32{f, 2, 1}, api.ErrForm)
		check(exampleSamples(), []float32{1, f, f}, api.ErrForm)
		check(exampleSamples(), append(make64()[:63], f), api.ErrForm)
		check(exampleSamples(), []float32{2, 1, f}, api.ErrOrder)
		check(exampleSamples(), []float32{2, f, 1}, api.ErrForm)
	}
	for _, limits := range [][]float32{{1, 1}, {2, 1}, {1, 2, 2}, {1, 3, 2}, {0, negativeZero()}, {negativeZero(), 0}, {math.MaxFloat32, -math.MaxFloat32}, append(make64()[:63], 62)} {
		check(exampleSamples(), limits, api.ErrOrder)
		check(nil, limits, api.ErrOrder)
	}
}
