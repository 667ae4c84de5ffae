package acquire_test

import (
	"math"
	"slices"
	"testing"

	"strobe/acquire"
	"strobe/api"
)

// P3.2: the examples 1 and 3 of the chapter.
func TestExamplesOfStreams(t *testing.T) {
	samples, triggers := exampleStream()
	l, e := acquire.Acquire(exampleSetup, samples, triggers, nil)
	sameSegments(t, "Acquire", l, e, exampleSegments(), api.OK)
	times, e := acquire.Accepted(exampleSetup, triggers, nil)
	sameList(t, "Accepted", times, e, []int{3, 10}, api.OK)
	dead, e := acquire.Dead(exampleSetup)
	same(t, "Dead", dead, e, 7, api.OK)
	l, e = acquire.Acquire(exampleSetup, samples, triggers, []int{4})
	sameSegments(t, "Acquire", l, e, []acquire.Segment{{Start: 7, Trigger: 9, Samples: counted(7, 5), Lost: 7, Missed: 3}}, api.OK)
	times, e = acquire.Accepted(exampleSetup, triggers, []int{4})
	sameList(t, "Accepted", times, e, []int{3, 9}, api.OK)
}

// P3.2: streams by the definitions.
func TestStreamsByDefinition(t *testing.T) {
	r := source(2)
	for range 2000 {
		p := randomPast(r)
		l, e := acquire.Acquire(p.setup, p.samples, p.triggers, p.arms)
		sameSegments(t, "Acquire", l, e, p.segments(), api.OK)
		times, e := acquire.Accepted(p.setup, p.triggers, p.arms)
		sameList(t, "Accepted", times, e, p.accepted(), api.OK)
	}
}

// P3.2: rearming at the first sample, after the last one, in each segment, and several times at once.
func TestArms(t *testing.T) {
	samples, triggers := exampleStream()
	for _, row := range []struct{ arms, accepted, segments []int }{
		{[]int{0}, []int{3, 10}, []int{3, 10}}, {[]int{14}, []int{3, 10}, []int{3, 10}}, {[]int{0, 0, 14, 14}, []int{3, 10}, []int{3, 10}},
		// Armed at 2 or 3, the machine has too few samples before the trigger at 3.
		{[]int{2}, []int{5}, []int{5}}, {[]int{3}, []int{5}, []int{5}},
		// At 6 the first segment is complete, and the holdoff ends with the rearming.
		{[]int{5}, []int{3, 9}, []int{9}}, {[]int{5, 5, 5}, []int{3, 9}, []int{9}}, {[]int{6}, []int{3, 9}, []int{3, 9}},
		{[]int{12}, []int{3, 10}, []int{3}}, {[]int{13}, []int{3, 10}, []int{3, 10}}, {[]int{4, 12}, []int{3, 9}, []int{9}}, {[]int{4, 11}, []int{3, 9}, nil},
	} {
		times, e := acquire.Accepted(exampleSetup, triggers, row.arms)
		sameList(t, "Accepted", times, e, row.accepted, api.OK)
		l, e := acquire.Acquire(exampleSetup, samples, triggers, row.arms)
		sameSegments(t, "Acquire", l, e, past{exampleSetup, samples, triggers, row.arms}.segments(), api.OK)
		sameList(t, "the triggers of the segments", triggersOf(l), 0, row.segments, 0)
	}
}

// triggersOf returns the triggers of segments.
func triggersOf(l []acquire.Segment) []int {
	var times []int
	for _, s := range l {
		times = append(times, s.Trigger)
	}
	return times
}

// P3.2: the longest streams, with the most segments and the most arms.
func TestLongStreams(t *testing.T) {
	samples, triggers := counted(0, 4096), slices.Repeat([]bool{true}, 4096)
	for _, s := range []acquire.Setup{{Post: 1, Segments: 64}, {Post: 1, Segments: 1}, {Pre: 3, Post: 5, Holdoff: 9, Segments: 2}, {Pre: 1024, Post: 1024, Segments: 64}, {Post: 1, Holdoff: 4096, Segments: 64}} {
		arms := make([]int, 256)
		for i := range arms {
			arms[i] = 16 * i
		}
		for _, arms := range [][]int{nil, arms} {
			p := past{s, samples, triggers, arms}
			l, e := acquire.Acquire(s, samples, triggers, arms)
			sameSegments(t, "Acquire", l, e, p.segments(), api.OK)
			times, e := acquire.Accepted(s, triggers, arms)
			sameList(t, "Accepted", times, e, p.accepted(), api.OK)
		}
	}
}

// P3.2: empty streams.
func TestEmptyStreams(t *testing.T) {
	for _, arms := range [][]int{nil, {0}, {0, 0, 0}} {
		l, e := acquire.Acquire(exampleSetup, nil, nil, arms)
		sameSegments(t, "Acquire", l, e, nil, api.OK)
		times, e := acquire.Accepted(exampleSetup, nil, arms)
		sameList(t, "Accepted", times, e, nil, api.OK)
	}
}

// badArms returns the errors of arms of a stream of 14 samples.
func badArms() []struct {
	arms []int
	e    api.Errno
} {
	return []struct {
		arms []int
		e    api.Errno
	}{
		{make([]int, 257), api.ErrMany}, {slices.Repeat([]int{-1}, 257), api.ErrMany},
		{[]int{-1}, api.ErrRange}, {[]int{15}, api.ErrRange}, {[]int{math.MinInt}, api.ErrRange}, {[]int{0, math.MaxInt}, api.ErrRange}, {[]int{5, -1}, api.ErrRange}, {[]int{5, 15, 4}, api.ErrRange},
		{[]int{5, 4}, api.ErrOrder}, {[]int{5, 4, 15}, api.ErrOrder}, {[]int{0, 14, 13, -1}, api.ErrOrder},
	}
}

// P3.2: the errors of streams, in their order.
func TestStreamErrors(t *testing.T) {
	samples, triggers := exampleStream()
	many, bad := make([]float32, 4097), notFinite()
	for _, s := range badSetups() {
		l, e := acquire.Acquire(s, many, nil, []int{-1})
		sameSegments(t, "Acquire", l, e, nil, api.ErrRange)
		times, e := acquire.Accepted(s, make([]bool, 4097), []int{5, 4})
		sameList(t, "Accepted", times, e, nil, api.ErrRange)
		dead, e := acquire.Dead(s)
		same(t, "Dead", dead, e, 0, api.ErrRange)
	}
	for _, row := range []struct {
		samples  []float32
		triggers []bool
		e        api.Errno
	}{
		{many, make([]bool, 4097), api.ErrMany}, {many, nil, api.ErrMany}, {bad, nil, api.ErrForm}, {bad[1:2], make([]bool, 1), api.ErrForm}, {bad[2:3], make([]bool, 1), api.ErrForm},
		{samples, nil, api.ErrShape}, {samples, triggers[1:], api.ErrShape}, {nil, triggers, api.ErrShape}, {samples, make([]bool, 4097), api.ErrShape},
	} {
		for _, arms := range [][]int{nil, {-1}, {5, 4}, make([]int, 257)} {
			l, e := acquire.Acquire(exampleSetup, row.samples, row.triggers, arms)
			sameSegments(t, "Acquire", l, e, nil, row.e)
		}
	}
	for _, row := range badArms() {
		l, e := acquire.Acquire(exampleSetup, samples, triggers, row.arms)
		sameSegments(t, "Acquire", l, e, nil, row.e)
		times, e := acquire.Accepted(exampleSetup, triggers, row.arms)
		sameList(t, "Accepted", times, e, nil, row.e)
		times, e = acquire.Accepted(exampleSetup, make([]bool, 4097), row.arms)
		sameList(t, "Accepted", times, e, nil, api.ErrMany)
	}
}

// P3.2: the dead time is reached, and not undercut, by the triggers of a stream of triggers only.
func TestDead(t *testing.T) {
	for _, s := range goodSetups() {
		dead, e := acquire.Dead(s)
		two := s
		two.Segments = 2
		m := newMachine(t, two)
		for m.Counts().Accepted < 2 {
			m.Feed([]float32{0}, []bool{true})
		}
		accepted := m.Time() - 1 - s.Pre
		same(t, "Dead", dead, e, accepted, api.OK)
	}
}

// P3.2: the arguments do not change, and results share no memory with them.
func TestStreamsShareNothing(t *testing.T) {
	samples, triggers := exampleStream()
	arms := []int{0, 6, 14}
	l, _ := acquire.Acquire(exampleSetup, samples, triggers, arms)
	again, _ := acquire.Acquire(exampleSetup, samples, triggers, arms)
	for _, s := range l {
		clear(s.Samples)
	}
	wanted, wantedTriggers := exampleStream()
	sameRecord(t, "the samples", samples, 0, wanted, 0)
	sameList(t, "the triggers", triggers, 0, wantedTriggers, 0)
	sameList(t, "the arms", arms, 0, []int{0, 6, 14}, 0)
	sameSegments(t, "the same segments", again, 0, past{exampleSetup, samples, triggers, arms}.segments(), 0)
}

// P3.2: -0 is stored as 0.
func TestZerosOfStreams(t *testing.T) {
	l, e := acquire.Acquire(acquire.Setup{Post: 2, Segments: 1}, []float32{negativeZero(), negativeZero()}, flagsAt(2, 0), nil)
	sameSegments(t, "Acquire", l, e, []acquire.Segment{{Samples: []float32{0, 0}}}, api.OK)
}
