package acquire_test

import (
	"math"
	"slices"
	"testing"

	"strobe/acquire"
	"strobe/api"
)

// P3.6: a machine that is given a stream in pieces of any sizes has the segments of the whole stream.
func TestPieces(t *testing.T) {
	r := source(12)
	for range 500 {
		p := randomPast(r)
		m := newMachine(t, p.setup)
		arms := p.arms
		for from := 0; ; {
			for len(arms) > 0 && arms[0] == from {
				same(t, "Rearm", 0, m.Rearm(), 0, api.OK)
				arms = arms[1:]
			}
			if from == len(p.samples) {
				break
			}
			to := min(from+r.Intn(9), len(p.samples))
			if len(arms) > 0 {
				to = min(to, arms[0])
			}
			same(t, "Feed", 0, m.Feed(p.samples[from:to], p.triggers[from:to]), 0, api.OK)
			from = to
		}
		whole, e := acquire.Acquire(p.setup, p.samples, p.triggers, p.arms)
		sameSegments(t, "Segments", m.Segments(), 0, whole, e)
	}
}

// P3.6: each segment has the samples of the stream around its trigger; segments do not overlap,
// and with the lost samples they cover the stream.
func TestSegmentsOfStreams(t *testing.T) {
	r := source(13)
	for range 500 {
		p := randomPast(r)
		l, e := acquire.Acquire(p.setup, p.samples, p.triggers, p.arms)
		same(t, "CheckSegments", 0, max(e, acquire.CheckSegments(l)), 0, api.OK)
		for _, s := range l {
			sameRecord(t, "the samples", s.Samples, 0, p.samples[s.Trigger-p.setup.Pre:s.Trigger+p.setup.Post], 0)
			same(t, "a trigger", p.triggers[s.Trigger], 0, true, 0)
		}
		ranges, e := acquire.Cover(l, len(p.samples))
		at, lost := 0, 0
		for _, x := range ranges {
			same(t, "the beginning of a range", x.From, e, at, api.OK)
			at = x.To
			if x.Segment == 0 {
				lost += x.To - x.From
			}
		}
		same(t, "the end of the last range", at, e, len(p.samples), api.OK)
		kept := 0
		for _, s := range l {
			lost -= s.Lost
			kept += len(s.Samples)
		}
		same(t, "the samples after the last segment", lost, 0, len(p.samples)-endOf(l), 0)
		c := machineOf(t, p).Counts()
		same(t, "the samples", [2]int{c.Kept, c.Kept + c.Open + c.Lost}, 0, [2]int{kept, len(p.samples)}, 0)
	}
}

// machineOf returns the machine that was given a stream.
func machineOf(t *testing.T, p past) *acquire.Machine {
	t.Helper()
	m := newMachine(t, p.setup)
	from := 0
	for _, arm := range p.arms {
		m.Feed(p.samples[from:arm], p.triggers[from:arm])
		m.Rearm()
		from = arm
	}
	m.Feed(p.samples[from:], p.triggers[from:])
	return m
}

// P3.6: the accepted triggers, of which each two are at least Dead apart, and the missed ones are all triggers.
func TestTriggersOfStreams(t *testing.T) {
	r := source(14)
	for i := range 500 {
		p := randomPast(r)
		if i%2 == 0 {
			p.arms = nil
		}
		dead, _ := acquire.Dead(p.setup)
		times, e := acquire.Accepted(p.setup, p.triggers, p.arms)
		for k, time := range times {
			same(t, "a trigger", p.triggers[time], e, true, api.OK)
			if k > 0 && p.armed(time) <= times[k-1] && time-times[k-1] < dead {
				t.Errorf("%v: the accepted triggers %v are less than %d apart", p.setup, times, dead)
			}
		}
		all := 0
		for _, isTrigger := range p.triggers {
			if isTrigger {
				all++
			}
		}
		c := machineOf(t, p).Counts()
		same(t, "all triggers", c.Accepted+c.Missed, 0, all, 0)
		if p.arms == nil {
			same(t, "the accepted triggers", c.Accepted, 0, len(times), 0)
		}
	}
}

// P3.6: the first trigger that may be accepted after arming is accepted.
func TestFirstTriggers(t *testing.T) {
	for _, s := range []acquire.Setup{exampleSetup, {Post: 1, Segments: 1}, {Pre: 1024, Post: 1024, Segments: 1}, {Pre: 7, Post: 2, Holdoff: 4096, Segments: 64}} {
		for _, arm := range []int{0, 1, 5, 1000} {
			first := arm + s.Pre
			times, e := acquire.Accepted(s, flagsAt(4096, first), []int{arm})
			sameList(t, "Accepted", times, e, []int{first}, api.OK)
			if first > arm {
				times, e = acquire.Accepted(s, flagsAt(4096, first-1, first), []int{arm})
				isEarly := slices.Contains(times, first-1) && arm < s.Post+s.Pre
				same(t, "a trigger that comes too early", isEarly, e, false, api.OK)
			}
		}
	}
}

// P3.6: time stamps are unwrapped to the times if the first one is less than 2^bits, and each further one is at most 2^bits greater.
func TestStampsAreUnwrapped(t *testing.T) {
	r := source(15)
	for range 500 {
		bits := 1 + r.Intn(20)
		var l []acquire.Segment
		time, end := r.Intn(1<<bits), 0
		for range r.Intn(64) {
			l = append(l, acquire.Segment{Start: time, Trigger: time, Samples: []float32{0}, Lost: time - end})
			end = time + 1
			time += 1 + r.Intn(1<<bits)
		}
		stamps, e := acquire.Stamps(l, bits)
		times, e2 := acquire.Unwrap(stamps, bits)
		sameList(t, "Unwrap", times, max(e, e2), triggersOf(l), api.OK)
	}
}

// P3.6: a record is joined from its blocks.
func TestRecordsAreJoined(t *testing.T) {
	r := source(16)
	for n := range 200 {
		samples := make([]float32, n)
		for i := range samples {
			samples[i] = anyFloat(r)
		}
		blocks, e := acquire.Blocks(samples)
		joined, e2 := acquire.Join(blocks, n)
		sameRecord(t, "Join", joined, max(e, e2), samples, api.OK)
	}
}

// P1: functions with arguments of any form return, without a panic.
func TestArgumentsOfAnyForm(t *testing.T) {
	numbers := []int{math.MinInt, -1, 0, 1, 30, 31, api.MaxNumber, math.MaxInt}
	segments := []acquire.Segment{{Start: math.MaxInt, Trigger: math.MinInt, Samples: notFinite(), Lost: -1, Missed: -1}, {}}
	for _, n := range numbers {
		for _, k := range numbers {
			s := acquire.Setup{Pre: n, Post: k, Holdoff: n, Segments: k}
			acquire.CheckSetup(s)
			acquire.New(s)
			acquire.Dead(s)
			acquire.Acquire(s, notFinite(), []bool{true}, []int{n, k})
			acquire.Accepted(s, []bool{true, false}, []int{n, k})
			acquire.Unwrap([]int{n, k}, k)
		}
		acquire.Cover(segments, n)
		acquire.Align(segments, segments, n)
		acquire.Stamps(segments, n)
		acquire.Join(make([]block, 1), n)
	}
}
