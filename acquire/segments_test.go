package acquire_test

import (
	"math"
	"math/big"
	"math/rand"
	"slices"
	"testing"

	"strobe/acquire"
	"strobe/api"
)

// randomSegments returns up to n segments with few samples each, whose Lost and Start agree.
func randomSegments(r *rand.Rand, n int) []acquire.Segment {
	l := make([]acquire.Segment, r.Intn(n+1))
	end := 0
	for i := range l {
		lost, samples := r.Intn(4), make([]float32, 1+r.Intn(6))
		for k := range samples {
			samples[k] = float32(r.NormFloat64())
		}
		l[i] = acquire.Segment{Start: end + lost, Trigger: end + lost + r.Intn(len(samples)), Samples: samples, Lost: lost, Missed: r.Intn(5)}
		end += lost + len(samples)
	}
	return l
}

// endOf returns the end of the last segment.
func endOf(l []acquire.Segment) int {
	if len(l) == 0 {
		return 0
	}
	return l[len(l)-1].Start + len(l[len(l)-1].Samples)
}

// badSegments is segments and their error.
type badSegments struct {
	l []acquire.Segment
	e api.Errno
}

// changedSegments returns the segments of the examples with a change, and their error.
func changedSegments(e api.Errno, change func([]acquire.Segment)) badSegments {
	l := exampleSegments()
	change(l)
	return badSegments{l, e}
}

// manySegments returns n segments of one sample each.
func manySegments(n int) []acquire.Segment {
	l := make([]acquire.Segment, n)
	for i := range l {
		l[i] = acquire.Segment{Start: i, Trigger: i, Samples: []float32{float32(i)}}
	}
	return l
}

// badFields returns segments with one error.
func badFields() []badSegments {
	l := []badSegments{{manySegments(65), api.ErrMany}, {make([]acquire.Segment, 65), api.ErrMany}, {make([]acquire.Segment, 1), api.ErrEmpty}}
	for _, n := range []int{math.MinInt, -1, 1000000000, math.MaxInt} {
		l = append(l, changedSegments(api.ErrRange, func(l []acquire.Segment) { l[0].Start = n }), changedSegments(api.ErrRange, func(l []acquire.Segment) { l[1].Missed = n }), changedSegments(api.ErrRange, func(l []acquire.Segment) { l[0].Missed = n }))
	}
	for _, n := range []int{math.MinInt, -1, 0, 6, math.MaxInt} {
		l = append(l, changedSegments(api.ErrRange, func(l []acquire.Segment) { l[0].Trigger = n }))
	}
	for _, n := range []int{math.MinInt, 7, 13, math.MaxInt} {
		l = append(l, changedSegments(api.ErrRange, func(l []acquire.Segment) { l[1].Trigger = n }))
	}
	for _, n := range []int{math.MinInt, -1, 1, 3, 8, math.MaxInt} {
		l = append(l, changedSegments(api.ErrConflict, func(l []acquire.Segment) { l[1].Lost = n }))
	}
	for _, f := range notFinite() {
		l = append(l, changedSegments(api.ErrForm, func(l []acquire.Segment) { l[1].Samples[4] = f }))
	}
	return append(l,
		changedSegments(api.ErrMany, func(l []acquire.Segment) { l[1].Samples = make([]float32, 4097) }),
		changedSegments(api.ErrEmpty, func(l []acquire.Segment) { l[1].Samples = nil }),
		changedSegments(api.ErrEmpty, func(l []acquire.Segment) { l[0].Samples = []float32{} }),
		changedSegments(api.ErrOrder, func(l []acquire.Segment) { l[1].Start, l[1].Trigger, l[1].Lost = 5, 9, -1 }),
		changedSegments(api.ErrOrder, func(l []acquire.Segment) { l[0], l[1] = l[1], l[0]; l[0].Lost, l[1].Lost = 8, 1 }),
		changedSegments(api.ErrConflict, func(l []acquire.Segment) { l[0].Lost = 0 }),
		changedSegments(api.ErrConflict, func(l []acquire.Segment) { l[0].Start, l[0].Trigger = 0, 0 }),
	)
}

// badOrders returns segments with several errors, of which the first one decides.
func badOrders() []badSegments {
	return []badSegments{
		changedSegments(api.ErrRange, func(l []acquire.Segment) { l[0].Start, l[0].Samples = -1, notFinite() }),
		changedSegments(api.ErrRange, func(l []acquire.Segment) { l[1].Start, l[1].Samples = api.MaxNumber+1, nil }),
		changedSegments(api.ErrMany, func(l []acquire.Segment) { l[0].Trigger, l[0].Samples = -1, make([]float32, 4097) }),
		changedSegments(api.ErrForm, func(l []acquire.Segment) { l[0].Trigger, l[0].Samples = 99, notFinite() }),
		changedSegments(api.ErrForm, func(l []acquire.Segment) { l[1].Start, l[1].Samples = 3, notFinite() }),
		changedSegments(api.ErrEmpty, func(l []acquire.Segment) { l[1].Start, l[1].Trigger, l[1].Samples, l[1].Missed = 3, 99, nil, -1 }),
		changedSegments(api.ErrRange, func(l []acquire.Segment) { l[1].Start, l[1].Lost = 3, 7 }),
		changedSegments(api.ErrOrder, func(l []acquire.Segment) { l[1].Start, l[1].Trigger, l[1].Lost, l[1].Missed = 5, 5, 9, -1 }),
		changedSegments(api.ErrConflict, func(l []acquire.Segment) { l[1].Lost, l[1].Missed = 3, -1 }),
		// The first segment with an error decides.
		changedSegments(api.ErrRange, func(l []acquire.Segment) { l[0].Missed, l[1].Samples = -1, nil }),
		changedSegments(api.ErrConflict, func(l []acquire.Segment) { l[0].Lost, l[1].Start = 2, -1 }),
		changedSegments(api.ErrEmpty, func(l []acquire.Segment) { l[0].Samples, l[1].Start = nil, -1 }),
		{append(manySegments(3), acquire.Segment{Start: -1}), api.ErrRange},
		{append(make([]acquire.Segment, 1), manySegments(64)...), api.ErrMany},
	}
}

// P3.3: segments without an error.
func TestGoodSegments(t *testing.T) {
	r := source(3)
	longest := make([]float32, 4096)
	for _, l := range [][]acquire.Segment{
		nil, exampleSegments(), manySegments(64), randomSegments(r, 64), randomSegments(r, 64),
		{{Start: api.MaxNumber, Trigger: api.MaxNumber + 4095, Samples: longest, Lost: api.MaxNumber, Missed: api.MaxNumber}},
		{{Samples: longest}, {Start: 4096, Trigger: 8191, Samples: longest}}, {{Samples: []float32{negativeZero(), math.MaxFloat32}, Trigger: 1}},
	} {
		same(t, "CheckSegments", 0, acquire.CheckSegments(l), 0, api.OK)
	}
}

// P3.3: the errors of segments come first, in their order, with zero values beside them.
func TestBadSegments(t *testing.T) {
	for _, bad := range append(badFields(), badOrders()...) {
		same(t, "CheckSegments", 0, acquire.CheckSegments(bad.l), 0, bad.e)
		ranges, e := acquire.Cover(bad.l, -1)
		sameList(t, "Cover", ranges, e, nil, bad.e)
		mean, e := acquire.Average(bad.l)
		sameList(t, "Average", mean, e, nil, bad.e)
		low, high, e := acquire.Envelope(bad.l)
		sameRecord(t, "Envelope", low, e, nil, bad.e)
		sameRecord(t, "Envelope", high, e, nil, bad.e)
		pairs, e := acquire.Align(bad.l, []acquire.Segment{{Start: -1}}, -1)
		sameList(t, "Align", pairs, e, nil, bad.e)
		pairs, e = acquire.Align(nil, bad.l, -1)
		sameList(t, "Align", pairs, e, nil, bad.e)
		stamps, e := acquire.Stamps(bad.l, 0)
		sameList(t, "Stamps", stamps, e, nil, bad.e)
	}
	pairs, e := acquire.Align([]acquire.Segment{{}}, []acquire.Segment{{Start: -1}}, 0)
	sameList(t, "Align", pairs, e, nil, api.ErrEmpty)
}

// P3.3: the ranges of segments: the example 4 of the chapter, and the places where samples may be lost.
func TestCover(t *testing.T) {
	touching := []acquire.Segment{{Samples: counted(0, 2)}, {Start: 2, Trigger: 2, Samples: counted(2, 3)}}
	for _, row := range []struct {
		l      []acquire.Segment
		n      int
		ranges []acquire.Range
	}{
		{exampleSegments(), 14, []acquire.Range{{From: 0, To: 1}, {From: 1, To: 6, Segment: 1}, {From: 6, To: 8}, {From: 8, To: 13, Segment: 2}, {From: 13, To: 14}}},
		{exampleSegments(), 13, []acquire.Range{{From: 0, To: 1}, {From: 1, To: 6, Segment: 1}, {From: 6, To: 8}, {From: 8, To: 13, Segment: 2}}},
		{exampleSegments()[:1], api.MaxNumber, []acquire.Range{{From: 0, To: 1}, {From: 1, To: 6, Segment: 1}, {From: 6, To: api.MaxNumber}}},
		{touching, 5, []acquire.Range{{From: 0, To: 2, Segment: 1}, {From: 2, To: 5, Segment: 2}}}, {touching, 6, []acquire.Range{{From: 0, To: 2, Segment: 1}, {From: 2, To: 5, Segment: 2}, {From: 5, To: 6}}},
		{nil, 0, nil}, {nil, 1, []acquire.Range{{From: 0, To: 1}}}, {nil, api.MaxNumber, []acquire.Range{{From: 0, To: api.MaxNumber}}},
	} {
		ranges, e := acquire.Cover(row.l, row.n)
		sameList(t, "Cover", ranges, e, row.ranges, api.OK)
	}
	for _, n := range []int{math.MinInt, -1, 0, 12, api.MaxNumber + 1, math.MaxInt} {
		ranges, e := acquire.Cover(exampleSegments(), n)
		sameList(t, "Cover", ranges, e, nil, api.ErrRange)
	}
	for _, n := range []int{-1, api.MaxNumber + 1} {
		ranges, e := acquire.Cover(nil, n)
		sameList(t, "Cover", ranges, e, nil, api.ErrRange)
	}
	beyond := []acquire.Segment{{Start: api.MaxNumber, Trigger: api.MaxNumber, Samples: []float32{1}, Lost: api.MaxNumber}}
	ranges, e := acquire.Cover(beyond, api.MaxNumber)
	sameList(t, "Cover", ranges, e, nil, api.ErrRange)
}

// P3.3: each sample is in the range of its segment, and the ranges alternate as the samples do.
func TestCoverByDefinition(t *testing.T) {
	r := source(4)
	for range 300 {
		l := randomSegments(r, 10)
		n := endOf(l) + r.Intn(4)
		var wanted []acquire.Range
		for time := range n {
			segment := 1 + slices.IndexFunc(l, func(s acquire.Segment) bool { return s.Start <= time && time < s.Start+len(s.Samples) })
			if len(wanted) == 0 || wanted[len(wanted)-1].Segment != segment {
				wanted = append(wanted, acquire.Range{From: time, Segment: segment})
			}
			wanted[len(wanted)-1].To = time + 1
		}
		ranges, e := acquire.Cover(l, n)
		sameList(t, "Cover", ranges, e, wanted, api.OK)
	}
}

// P3.3: the average of the example 4 of the chapter, and others.
func TestAverage(t *testing.T) {
	for _, row := range []struct {
		l    []acquire.Segment
		mean []api.Rat
	}{
		{exampleSegments(), []api.Rat{"9/2", "11/2", "13/2", "15/2", "17/2"}}, {exampleSegments()[:1], []api.Rat{"1", "2", "3", "4", "5"}}, {manySegments(64), []api.Rat{"63/2"}},
		{[]acquire.Segment{{Samples: []float32{negativeZero(), 1, 0.1}}}, []api.Rat{"0", "1", "13421773/134217728"}},
		{[]acquire.Segment{{Samples: []float32{1}}, {Start: 1, Trigger: 1, Samples: []float32{-1}}, {Start: 2, Trigger: 2, Samples: []float32{1}}}, []api.Rat{"1/3"}},
	} {
		mean, e := acquire.Average(row.l)
		sameList(t, "Average", mean, e, row.mean, api.OK)
	}
}

// alike returns segments with samples of any size, as many in each.
func alike(r *rand.Rand, n, length int, sample func() float32) []acquire.Segment {
	l := make([]acquire.Segment, n)
	for i := range l {
		l[i] = acquire.Segment{Start: i * length, Trigger: i*length + r.Intn(length), Samples: make([]float32, length)}
		for k := range length {
			l[i].Samples[k] = sample()
		}
	}
	return l
}

// P3.3: averages and envelopes of random segments, also of the greatest and the least floats.
func TestAveragesByDefinition(t *testing.T) {
	r := source(5)
	extremes := []float32{math.MaxFloat32, -math.MaxFloat32, math.SmallestNonzeroFloat32, -math.SmallestNonzeroFloat32, 0, negativeZero(), 1}
	for i := range 40 {
		n, length := 1+r.Intn(64), 1+r.Intn(12)
		l := alike(r, n, length, func() float32 {
			if i%2 == 0 {
				return extremes[r.Intn(len(extremes))]
			}
			return anyFloat(r)
		})
		mean, e := acquire.Average(l)
		low, high, e2 := acquire.Envelope(l)
		for k := range length {
			sum, least, greatest := new(big.Rat), l[0].Samples[k]+0, l[0].Samples[k]+0
			for _, s := range l {
				sum.Add(sum, exact(s.Samples[k]))
				if s.Samples[k] < least {
					least = s.Samples[k]
				}
				if s.Samples[k] > greatest {
					greatest = s.Samples[k]
				}
			}
			sum.Quo(sum, big.NewRat(int64(n), 1))
			same(t, "Average", mean[k], e, api.Rat(sum.RatString()), api.OK)
			same(t, "Envelope", [2]float32{low[k], high[k]}, e2, [2]float32{least, greatest}, api.OK)
		}
		same(t, "the lengths", [3]int{len(mean), len(low), len(high)}, 0, [3]int{length, length, length}, 0)
	}
}

// P3.3: the longest segments.
func TestLongAverage(t *testing.T) {
	r := source(6)
	l := alike(r, 64, 4096, func() float32 { return float32(r.Intn(256)) / 8 })
	mean, e := acquire.Average(l)
	same(t, "the length of the average", len(mean), e, 4096, api.OK)
	low, high, e := acquire.Envelope(l)
	same(t, "the lengths of the envelope", [2]int{len(low), len(high)}, e, [2]int{4096, 4096}, api.OK)
}

// P3.3: envelopes have no -0, and share no memory with the segments or with each other.
func TestEnvelope(t *testing.T) {
	l := []acquire.Segment{{Samples: []float32{negativeZero(), 2, -3, 0}}, {Start: 4, Trigger: 4, Samples: []float32{negativeZero(), -5, -1, negativeZero()}}}
	low, high, e := acquire.Envelope(l)
	sameRecord(t, "the least", low, e, []float32{0, -5, -3, 0}, api.OK)
	sameRecord(t, "the greatest", high, e, []float32{0, 2, -1, 0}, api.OK)
	low, high, e = acquire.Envelope(l[:1])
	high[1] = 7
	sameRecord(t, "the least", low, e, []float32{0, 2, -3, 0}, api.OK)
	sameRecord(t, "the samples", l[0].Samples, e, []float32{negativeZero(), 2, -3, 0}, api.OK)
}

// P3.3: the errors of averages and envelopes.
func TestAverageErrors(t *testing.T) {
	three := append(exampleSegments(), acquire.Segment{Start: 13, Trigger: 13, Samples: counted(0, 4)})
	for _, row := range []badSegments{{nil, api.ErrEmpty}, {[]acquire.Segment{}, api.ErrEmpty}, {three, api.ErrShape}, {three[:2], api.OK}, {append(manySegments(1), acquire.Segment{Start: 1, Trigger: 1, Samples: []float32{1, 2}}), api.ErrShape}} {
		mean, e := acquire.Average(row.l)
		same(t, "Average", len(mean) > 0, e, row.e == api.OK, row.e)
		low, high, e := acquire.Envelope(row.l)
		same(t, "Envelope", len(low)+len(high) > 0, e, row.e == api.OK, row.e)
	}
}

// withTriggers returns segments of 10 samples from 0, 10, .. on, with triggers at some times.
func withTriggers(times ...int) []acquire.Segment {
	var l []acquire.Segment
	end := 0
	for _, time := range times {
		start := time / 10 * 10
		l = append(l, acquire.Segment{Start: start, Trigger: time, Samples: make([]float32, 10), Lost: start - end})
		end = start + 10
	}
	return l
}

// P3.3: the nearest triggers of two channels.
func TestAlign(t *testing.T) {
	for _, row := range []struct {
		a, b  []acquire.Segment
		most  int
		pairs [][2]int
	}{
		{exampleSegments(), exampleSegments(), 0, [][2]int{{0, 0}, {1, 1}}}, {withTriggers(5, 15, 25), withTriggers(14), 9, [][2]int{{0, 0}, {1, 0}}}, {withTriggers(5, 15, 25), withTriggers(14), 8, [][2]int{{1, 0}}},
		{withTriggers(5, 15, 25), withTriggers(14), 0, nil}, {withTriggers(5, 15, 25), withTriggers(14), api.MaxNumber, [][2]int{{0, 0}, {1, 0}, {2, 0}}}, {withTriggers(14), withTriggers(5, 15, 25), 1, [][2]int{{0, 1}}},
		// Two triggers of b are equally far away.
		{withTriggers(10), withTriggers(5, 15, 25), 5, [][2]int{{0, 0}}}, {withTriggers(20), withTriggers(5, 15, 25), 5, [][2]int{{0, 1}}}, {withTriggers(20), withTriggers(5, 15, 25), 4, nil},
		{withTriggers(0, 19), withTriggers(99), 99, [][2]int{{0, 0}, {1, 0}}}, {withTriggers(99), withTriggers(0, 19), 80, [][2]int{{0, 1}}}, {nil, withTriggers(5), 9, nil}, {withTriggers(5), nil, 9, nil}, {nil, nil, 0, nil},
	} {
		pairs, e := acquire.Align(row.a, row.b, row.most)
		sameList(t, "Align", pairs, e, row.pairs, api.OK)
	}
	for _, most := range []int{math.MinInt, -1, api.MaxNumber + 1, math.MaxInt} {
		for _, l := range [][]acquire.Segment{nil, exampleSegments()} {
			pairs, e := acquire.Align(l, l, most)
			sameList(t, "Align", pairs, e, nil, api.ErrRange)
		}
	}
}

// P3.3: the nearest triggers by the definition.
func TestAlignByDefinition(t *testing.T) {
	r := source(7)
	for range 500 {
		a, b, most := randomSegments(r, 12), randomSegments(r, 12), r.Intn(12)
		var wanted [][2]int
		for i, s := range a {
			for difference := 0; difference <= most; difference++ {
				k := slices.IndexFunc(b, func(o acquire.Segment) bool {
					return o.Trigger == s.Trigger+difference || o.Trigger == s.Trigger-difference
				})
				if k >= 0 {
					wanted = append(wanted, [2]int{i, k})
					break
				}
			}
		}
		pairs, e := acquire.Align(a, b, most)
		sameList(t, "Align", pairs, e, wanted, api.OK)
	}
}
