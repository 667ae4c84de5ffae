package acquire_test

import (
	"slices"
	"strconv"
	"testing"

	"strobe/acquire"
	"strobe/api"
)

// P3.1: the limits, and the numbers of the states.
func TestLimits(t *testing.T) {
	same(t, "the limits", [3]int{acquire.MaxDepth, acquire.BlockSize, acquire.MaxBits}, 0, [3]int{1024, 16, 30}, 0)
	states := [5]int{acquire.Filling, acquire.Armed, acquire.Triggered, acquire.Holding, acquire.Done}
	same(t, "the states", states, 0, [5]int{0, 1, 2, 3, 4}, 0)
}

// P3.1: set-ups and their errors; New has the same ones.
func TestSetups(t *testing.T) {
	for _, s := range goodSetups() {
		same(t, "CheckSetup", s, acquire.CheckSetup(s), s, api.OK)
		newMachine(t, s)
	}
	for _, s := range badSetups() {
		same(t, "CheckSetup", s, acquire.CheckSetup(s), s, api.ErrRange)
		m, e := acquire.New(s)
		same(t, "New", m, e, nil, api.ErrRange)
	}
}

// P3.1: a new machine has nothing yet.
func TestNewMachines(t *testing.T) {
	for _, s := range goodSetups() {
		m := newMachine(t, s)
		sameMachine(t, "a new machine", m, past{setup: s})
		same(t, "Feed nothing", 0, m.Feed(nil, nil), 0, api.OK)
		same(t, "Feed nothing", 0, m.Feed([]float32{}, []bool{}), 0, api.OK)
		sameMachine(t, "a machine that was given nothing", m, past{setup: s})
	}
}

// P3.1: a nil machine.
func TestNilMachine(t *testing.T) {
	var m *acquire.Machine
	same(t, "Feed", 0, m.Feed(nil, nil), 0, api.ErrState)
	same(t, "Feed", 0, m.Feed(make([]float32, 5000), nil), 0, api.ErrState)
	same(t, "Feed", 0, m.Feed(notFinite(), nil), 0, api.ErrState)
	same(t, "Rearm", 0, m.Rearm(), 0, api.ErrState)
	same(t, "State", m.State(), 0, 0, 0)
	same(t, "Time", m.Time(), 0, 0, 0)
	same(t, "Pending", m.Pending(), 0, 0, 0)
	same(t, "Segments", len(m.Segments()), 0, 0, 0)
	same(t, "Counts", m.Counts(), 0, acquire.Count{}, 0)
}

// P1: a machine that New did not make has no segments to acquire, and loses everything.
func TestZeroMachine(t *testing.T) {
	m := new(acquire.Machine)
	samples, triggers := exampleStream()
	same(t, "Feed", 0, m.Feed(samples, triggers), 0, api.OK)
	same(t, "Rearm", 0, m.Rearm(), 0, api.OK)
	same(t, "Feed", 0, m.Feed(samples, triggers), 0, api.OK)
	same(t, "State", m.State(), 0, acquire.Done, 0)
	same(t, "Counts", m.Counts(), 0, acquire.Count{Lost: 28, Missed: 10}, 0)
	same(t, "Segments", len(m.Segments()), 0, 0, 0)
}

// P3.1: the examples 1 and 2 of the chapter.
func TestExampleOfMachines(t *testing.T) {
	m := newMachine(t, exampleSetup)
	samples, triggers := exampleStream()
	states := map[int]int{0: acquire.Filling, 2: acquire.Armed, 4: acquire.Triggered, 6: acquire.Holding, 10: acquire.Armed, 11: acquire.Triggered, 13: acquire.Done}
	for n := range 15 {
		if state, ok := states[n]; ok {
			same(t, "State after "+strconv.Itoa(n), m.State(), 0, state, 0)
		}
		if n == 4 {
			same(t, "Pending", m.Pending(), 0, 2, 0)
			same(t, "Counts", m.Counts(), 0, acquire.Count{Open: 3, Lost: 1, Accepted: 1, Missed: 1}, 0)
		}
		if n < 14 {
			same(t, "Feed", 0, m.Feed(samples[n:n+1], triggers[n:n+1]), 0, api.OK)
		}
	}
	same(t, "Time", m.Time(), 0, 14, 0)
	same(t, "Counts", m.Counts(), 0, acquire.Count{Kept: 10, Lost: 4, Accepted: 2, Missed: 3}, 0)
	sameSegments(t, "Segments", m.Segments(), 0, exampleSegments(), 0)
}

// P3.1: the example 3 of the chapter.
func TestExampleOfRearming(t *testing.T) {
	m := newMachine(t, exampleSetup)
	samples, triggers := exampleStream()
	m.Feed(samples[:4], triggers[:4])
	same(t, "Rearm", 0, m.Rearm(), 0, api.OK)
	same(t, "Pending", m.Pending(), 0, 0, 0)
	same(t, "State", m.State(), 0, acquire.Filling, 0)
	same(t, "Counts", m.Counts(), 0, acquire.Count{Lost: 4, Missed: 2}, 0)
	m.Feed(samples[4:], triggers[4:])
	sameSegments(t, "Segments", m.Segments(), 0, []acquire.Segment{{Start: 7, Trigger: 9, Samples: counted(7, 5), Lost: 7, Missed: 3}}, 0)
}

// P3.1: machines that are fed in pieces and rearmed, compared after each call with the definitions.
func TestMachinesByDefinition(t *testing.T) {
	r := source(1)
	for range 400 {
		p := randomPast(r)
		m := newMachine(t, p.setup)
		done := past{setup: p.setup}
		for from := 0; from < len(p.samples); {
			to := min(from+r.Intn(12), len(p.samples))
			same(t, "Feed", 0, m.Feed(p.samples[from:to], p.triggers[from:to]), 0, api.OK)
			done.samples, done.triggers = p.samples[:to], p.triggers[:to]
			sameMachine(t, "fed", m, done)
			if r.Intn(4) == 0 {
				same(t, "Rearm", 0, m.Rearm(), 0, api.OK)
				done.arms = append(done.arms, to)
				sameMachine(t, "rearmed", m, done)
			}
			from = to
		}
	}
}

// P3.1: every stream of six flags, with short set-ups and one rearming.
func TestShortStreams(t *testing.T) {
	for code := range 1 << 6 {
		triggers := make([]bool, 6)
		for i := range triggers {
			triggers[i] = code>>i&1 == 1
		}
		for variant := range 3 * 3 * 3 * 2 * 4 {
			s := acquire.Setup{Pre: variant % 3, Post: 1 + variant/3%3, Holdoff: variant / 9 % 3, Segments: 1 + variant/27%2}
			arm := 2 * (variant / 54)
			m := newMachine(t, s)
			m.Feed(counted(1, arm), triggers[:arm])
			m.Rearm()
			m.Feed(counted(1+arm, 6-arm), triggers[arm:])
			sameMachine(t, "a short stream", m, past{s, counted(1, 6), triggers, []int{arm}})
		}
	}
}

// P3.1: the longest segments, wherever they begin in the stream.
func TestLongSegments(t *testing.T) {
	for _, s := range []acquire.Setup{{Pre: 1024, Post: 1024, Segments: 64}, {Pre: 1024, Post: 1, Holdoff: 4096, Segments: 3}, {Post: 1024, Holdoff: 1, Segments: 5}, {Pre: 1023, Post: 1022, Segments: 9}} {
		m := newMachine(t, s)
		p := past{setup: s, samples: counted(0, 16000), triggers: make([]bool, 16000)}
		for t := range p.triggers {
			p.triggers[t] = t%7 == 3
		}
		for from := 0; from < 16000; from += 4000 {
			same(t, "Feed", 0, m.Feed(p.samples[from:from+4000], p.triggers[from:from+4000]), 0, api.OK)
		}
		sameMachine(t, "long segments", m, p)
		same(t, "the samples of a segment", len(m.Segments()[0].Samples), 0, s.Pre+s.Post, 0)
	}
}

// P3.1: a machine has at most 64 segments altogether; only then it cannot be rearmed.
func TestAllSegments(t *testing.T) {
	s := acquire.Setup{Post: 1, Segments: 60}
	m := newMachine(t, s)
	p := past{setup: s}
	feed := func(n int) {
		m.Feed(make([]float32, n), slices.Repeat([]bool{true}, n))
		p.samples, p.triggers = make([]float32, len(p.samples)+n), slices.Repeat([]bool{true}, len(p.samples)+n)
	}
	feed(63)
	sameMachine(t, "60 segments", m, p)
	same(t, "Rearm", 0, m.Rearm(), 0, api.OK)
	p.arms = append(p.arms, 63)
	feed(3)
	same(t, "State", m.State(), 0, acquire.Armed, 0)
	same(t, "Rearm", 0, m.Rearm(), 0, api.OK)
	p.arms = append(p.arms, 66)
	feed(1)
	sameMachine(t, "64 segments", m, p)
	same(t, "State", m.State(), 0, acquire.Done, 0)
	same(t, "Rearm", 0, m.Rearm(), 0, api.ErrMany)
	feed(5)
	sameMachine(t, "64 segments and more samples", m, p)
	same(t, "Segments", len(m.Segments()), 0, 64, 0)
}

// P3.1: the errors of Feed, in their order; with an error nothing changes.
func TestFeedErrors(t *testing.T) {
	m := newMachine(t, exampleSetup)
	samples, triggers := exampleStream()
	many, bad := make([]float32, 4097), notFinite()
	for n := range 15 {
		for _, row := range []struct {
			samples  []float32
			triggers []bool
			e        api.Errno
		}{
			{many, make([]bool, 4097), api.ErrMany}, {many, nil, api.ErrMany}, {append(bad[:1:1], many...), nil, api.ErrMany},
			{bad, nil, api.ErrForm}, {bad[1:2], flagsAt(1, 0), api.ErrForm}, {bad[2:3], flagsAt(1, 0), api.ErrForm}, {[]float32{1, 2, bad[0]}, flagsAt(3, 0), api.ErrForm},
			{samples, nil, api.ErrShape}, {nil, triggers, api.ErrShape}, {samples, make([]bool, 13), api.ErrShape}, {samples, make([]bool, 15), api.ErrShape}, {nil, make([]bool, 5000), api.ErrShape},
		} {
			same(t, "Feed", 0, m.Feed(row.samples, row.triggers), 0, row.e)
			sameMachine(t, "after an error", m, past{setup: exampleSetup, samples: samples[:n], triggers: triggers[:n]})
		}
		if n < 14 {
			m.Feed(samples[n:n+1], triggers[n:n+1])
		}
	}
	same(t, "Feed", 0, m.Feed(make([]float32, 4096), make([]bool, 4096)), 0, api.OK)
}

// P3.1: a machine is given at most MaxNumber samples.
func TestFullMachine(t *testing.T) {
	m := newMachine(t, exampleSetup)
	samples, triggers := make([]float32, 4096), make([]bool, 4096)
	for range api.MaxNumber / 4096 {
		m.Feed(samples, triggers)
	}
	rest := api.MaxNumber % 4096
	same(t, "Feed", m.Time(), m.Feed(samples, triggers), api.MaxNumber-rest, api.ErrFull)
	same(t, "Feed", m.Time(), m.Feed(samples[:rest+1], triggers[:rest+1]), api.MaxNumber-rest, api.ErrFull)
	same(t, "Feed", m.Time(), m.Feed(samples, triggers[1:]), api.MaxNumber-rest, api.ErrShape)
	same(t, "Feed", m.Time(), m.Feed(samples[:rest], flagsAt(rest, rest-3)), api.MaxNumber-rest, api.OK)
	same(t, "Feed", m.Time(), m.Feed([]float32{1}, []bool{true}), api.MaxNumber, api.ErrFull)
	same(t, "Feed", m.Time(), m.Feed(nil, nil), api.MaxNumber, api.OK)
	wanted := acquire.Segment{Start: api.MaxNumber - 5, Trigger: api.MaxNumber - 3, Samples: make([]float32, 5), Lost: api.MaxNumber - 5}
	sameSegments(t, "Segments", m.Segments(), 0, []acquire.Segment{wanted}, 0)
	same(t, "Counts", m.Counts(), 0, acquire.Count{Kept: 5, Lost: api.MaxNumber - 5, Accepted: 1}, 0)
	same(t, "Rearm", 0, m.Rearm(), 0, api.OK)
	same(t, "State", m.State(), 0, acquire.Filling, 0)
}

// P3.1: a machine shares no memory with the samples that it was given, or with its results; machines do not share any.
func TestMachinesShareNothing(t *testing.T) {
	m, other := newMachine(t, exampleSetup), newMachine(t, exampleSetup)
	samples, triggers := exampleStream()
	for n := range samples {
		piece, flags := []float32{samples[n]}, []bool{triggers[n]}
		m.Feed(piece, flags)
		piece[0], flags[0] = 77, true
	}
	first := m.Segments()
	clear(first[0].Samples)
	first[1].Samples = append(first[1].Samples[:2], 99)
	first[1].Lost = 55
	sameSegments(t, "Segments", m.Segments(), 0, exampleSegments(), 0)
	same(t, "the other machine", other.Time(), 0, 0, 0)
}

// P3.1: -0 is stored as 0.
func TestZerosOfMachines(t *testing.T) {
	m := newMachine(t, acquire.Setup{Pre: 1, Post: 2, Segments: 1})
	m.Feed([]float32{negativeZero(), 0, negativeZero()}, flagsAt(3, 1))
	sameRecord(t, "the samples", m.Segments()[0].Samples, 0, make([]float32, 3), 0)
}
