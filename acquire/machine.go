package acquire

import (
	"slices"

	"strobe/api"
	"strobe/common"
)

// ringSize is the number of samples of the longest segment.
const ringSize = 2 * MaxDepth

// Machine is an acquisition machine. The zero value keeps nothing: its set-up has no segments.
type Machine struct {
	setup Setup
	time  int
	// armedAt is the time at which the machine was last armed, completed the number of segments since then.
	armedAt   int
	completed int
	// pending is how many samples an incomplete segment still needs, 0 without one.
	pending int
	// triggers is how many triggers there were; openAt and closedAt are how many there were up to
	// the trigger of the incomplete segment, and up to that of the last complete one.
	triggers, openAt, closedAt int
	segments                   []Segment
	// ring has the sample of the time t at the index t modulo its size.
	ring [ringSize]float32
}

// New returns a machine that is armed at the time 0.
func New(s Setup) (*Machine, api.Errno) {
	if e := CheckSetup(s); e != api.OK {
		return nil, e
	}
	return &Machine{setup: s}, api.OK
}

// Feed gives a machine further samples, and whether each one is a trigger.
func (m *Machine) Feed(samples []float32, triggers []bool) api.Errno {
	if m == nil {
		return api.ErrState
	}
	if e := checkStream(samples, triggers); e != api.OK {
		return e
	}
	if m.time+len(samples) > api.MaxNumber {
		return api.ErrFull
	}
	for i, sample := range samples {
		m.take(sample, triggers[i])
	}
	return api.OK
}

// take gives a machine one further sample, and reports whether it is a trigger that is accepted.
func (m *Machine) take(sample float32, isTrigger bool) bool {
	m.ring[m.time%ringSize] = common.PositiveZero(sample)
	isAccepted := isTrigger && m.accepts()
	if isTrigger {
		m.triggers++
	}
	if isAccepted {
		m.pending, m.openAt = m.setup.Post, m.triggers
	}
	m.time++
	if m.pending > 0 {
		m.pending--
		if m.pending == 0 {
			m.complete()
		}
	}
	return isAccepted
}

// accepts reports whether a trigger at the time of the next sample is accepted.
func (m *Machine) accepts() bool {
	return all(
		func() bool { return m.pending == 0 },
		func() bool { return !m.isDone() },
		func() bool { return !m.isFilling() },
		func() bool { return !m.isHolding() },
	)
}

// all asks conditions in their order, and reports whether each of them holds.
func all(conditions ...func() bool) bool {
	for _, holds := range conditions {
		if !holds() {
			return false
		}
	}
	return true
}

// isDone reports whether a machine has as many segments as it may have.
func (m *Machine) isDone() bool {
	return m.completed >= m.setup.Segments || len(m.segments) >= api.MaxSegments
}

// isFilling reports whether too few samples have come for a segment to begin after the one before it, and after arming.
func (m *Machine) isFilling() bool {
	// All segments that are older than the arming have ended before it.
	return m.time < max(m.armedAt, endOf(m.segments))+m.setup.Pre
}

// isHolding reports whether the holdoff after a segment is not over; arming ends it.
func (m *Machine) isHolding() bool {
	return m.completed > 0 && m.time < endOf(m.segments)+m.setup.Holdoff
}

// complete adds the segment that ends here.
func (m *Machine) complete() {
	length := m.setup.Pre + m.setup.Post
	start := m.time - length
	m.segments = append(m.segments, Segment{
		Start:   start,
		Trigger: start + m.setup.Pre,
		Samples: m.latest(length),
		Lost:    start - endOf(m.segments),
		Missed:  m.openAt - m.closedAt - 1,
	})
	m.completed++
	m.closedAt = m.openAt
}

// latest returns the last n samples.
func (m *Machine) latest(n int) []float32 {
	samples := make([]float32, n)
	copied := copy(samples, m.ring[(m.time-n)%ringSize:])
	copy(samples[copied:], m.ring[:])
	return samples
}

// Rearm drops an incomplete segment, and begins a new acquisition.
func (m *Machine) Rearm() api.Errno {
	if m == nil {
		return api.ErrState
	}
	if len(m.segments) >= api.MaxSegments {
		return api.ErrMany
	}
	m.armedAt, m.completed, m.pending = m.time, 0, 0
	// No segment reaches back beyond the arming.
	clear(m.ring[:])
	return api.OK
}

// State returns the state of a machine.
func (m *Machine) State() int {
	switch {
	case m == nil:
		return Filling
	case m.isDone():
		return Done
	case m.pending > 0:
		return Triggered
	case m.isHolding():
		return Holding
	case m.isFilling():
		return Filling
	}
	return Armed
}

// Time returns how many samples a machine was given.
func (m *Machine) Time() int {
	if m == nil {
		return 0
	}
	return m.time
}

// Pending returns how many samples an incomplete segment still needs.
func (m *Machine) Pending() int {
	if m == nil {
		return 0
	}
	return m.pending
}

// Segments returns the complete segments.
func (m *Machine) Segments() []Segment {
	if m == nil {
		return nil
	}
	return common.Transformed(m.segments, Segment.copied)
}

// copied returns a segment with samples of its own.
func (s Segment) copied() Segment {
	s.Samples = slices.Clone(s.Samples)
	return s
}

// Counts returns the counts of a machine.
func (m *Machine) Counts() Count {
	if m == nil {
		return Count{}
	}
	length := m.setup.Pre + m.setup.Post
	c := Count{Kept: length * len(m.segments), Accepted: len(m.segments)}
	if m.pending > 0 {
		c.Open = length - m.pending
		c.Accepted++
	}
	c.Lost = m.time - c.Kept - c.Open
	c.Missed = m.triggers - c.Accepted
	return c
}
