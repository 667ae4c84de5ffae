package acquire_test

import (
	"math/rand"
	"slices"
	"testing"

	"strobe/acquire"
)

// past is what was done to a machine: its stream, and the times at which it was rearmed. Unlike a machine it keeps no state:
// everything follows from the chapter's definitions, and from the triggers that were accepted before.
type past struct {
	setup    acquire.Setup
	samples  []float32
	triggers []bool
	arms     []int
}

// armed returns the last time up to t at which the machine was armed.
func (p past) armed(t int) int {
	last := 0
	for _, arm := range p.arms {
		if arm <= t {
			last = arm
		}
	}
	return last
}

// isDropped reports whether the segment of a trigger has been dropped before the sample with the time n.
func (p past) isDropped(trigger, n int) bool {
	return slices.ContainsFunc(p.arms, func(arm int) bool {
		return trigger < arm && arm < trigger+p.setup.Post && arm <= n
	})
}

// complete returns the triggers of the segments that are complete before the sample with the time n.
func (p past) complete(accepted []int, n int) []int {
	var l []int
	for _, trigger := range accepted {
		if trigger+p.setup.Post <= n && !p.isDropped(trigger, n) {
			l = append(l, trigger)
		}
	}
	return l
}

// incomplete returns the trigger of the segment that is incomplete before the sample with the time n.
func (p past) incomplete(accepted []int, n int) (int, bool) {
	for _, trigger := range accepted {
		if trigger < n && n < trigger+p.setup.Post && !p.isDropped(trigger, n) {
			return trigger, true
		}
	}
	return 0, false
}

// ends returns the ends of the segments that have been completed since the machine was last armed before the time n.
func (p past) ends(accepted []int, n int) []int {
	var l []int
	for _, trigger := range p.complete(accepted, n) {
		if end := trigger + p.setup.Post; end > p.armed(n) {
			l = append(l, end)
		}
	}
	return l
}

// accepts reports whether a trigger at the time t is accepted, by the four conditions.
func (p past) accepts(accepted []int, t int) bool {
	if _, found := p.incomplete(accepted, t); found {
		return false
	}
	ends := p.ends(accepted, t)
	if len(ends) >= p.setup.Segments || len(p.complete(accepted, t)) >= 64 {
		return false
	}
	if len(ends) == 0 {
		return t >= p.armed(t)+p.setup.Pre
	}
	end := ends[len(ends)-1]
	return t >= end+p.setup.Pre && t >= end+p.setup.Holdoff
}

// accepted returns the times of the triggers that are accepted.
func (p past) accepted() []int {
	var l []int
	for t, isTrigger := range p.triggers {
		if isTrigger && p.accepts(l, t) {
			l = append(l, t)
		}
	}
	return l
}

// state returns the state of the machine after all samples.
func (p past) state() int {
	accepted, n := p.accepted(), len(p.samples)
	ends := p.ends(accepted, n)
	_, isOpen := p.incomplete(accepted, n)
	switch {
	case len(ends) >= p.setup.Segments || len(p.complete(accepted, n)) >= 64:
		return acquire.Done
	case isOpen:
		return acquire.Triggered
	case len(ends) > 0 && n < ends[len(ends)-1]+p.setup.Holdoff:
		return acquire.Holding
	case len(ends) > 0 && n < ends[len(ends)-1]+p.setup.Pre, len(ends) == 0 && n < p.armed(n)+p.setup.Pre:
		return acquire.Filling
	}
	return acquire.Armed
}

// pending returns how many samples an incomplete segment needs.
func (p past) pending() int {
	if trigger, found := p.incomplete(p.accepted(), len(p.samples)); found {
		return trigger + p.setup.Post - len(p.samples)
	}
	return 0
}

// segments returns the complete segments.
func (p past) segments() []acquire.Segment {
	var l []acquire.Segment
	end, last := 0, -1
	for _, trigger := range p.complete(p.accepted(), len(p.samples)) {
		s := acquire.Segment{Start: trigger - p.setup.Pre, Trigger: trigger, Lost: trigger - p.setup.Pre - end}
		end = trigger + p.setup.Post
		s.Samples = p.samples[s.Start:end]
		for t := last + 1; t < trigger; t++ {
			if p.triggers[t] {
				s.Missed++
			}
		}
		last = trigger
		l = append(l, s)
	}
	return l
}

// counts returns the counts of the machine, each sample and each trigger counted by itself.
func (p past) counts() acquire.Count {
	var c acquire.Count
	n := len(p.samples)
	complete := p.complete(p.accepted(), n)
	open, isOpen := p.incomplete(p.accepted(), n)
	for t := range n {
		covers := func(trigger int) bool { return trigger-p.setup.Pre <= t && t < trigger+p.setup.Post }
		switch {
		case slices.ContainsFunc(complete, covers):
			c.Kept++
		case isOpen && covers(open):
			c.Open++
		default:
			c.Lost++
		}
		switch {
		case !p.triggers[t]:
		case slices.Contains(complete, t), isOpen && t == open:
			c.Accepted++
		default:
			c.Missed++
		}
	}
	return c
}

// sameMachine compares everything that a machine tells with what follows from its past.
func sameMachine(t *testing.T, what string, m *acquire.Machine, p past) {
	t.Helper()
	same(t, what+": State", m.State(), 0, p.state(), 0)
	same(t, what+": Time", m.Time(), 0, len(p.samples), 0)
	same(t, what+": Pending", m.Pending(), 0, p.pending(), 0)
	same(t, what+": Counts", m.Counts(), 0, p.counts(), 0)
	sameSegments(t, what+": Segments", m.Segments(), 0, p.segments(), 0)
}

// randomPast returns a short stream with many triggers; it is rearmed at few times.
func randomPast(r *rand.Rand) past {
	p := past{setup: acquire.Setup{Pre: r.Intn(5), Post: 1 + r.Intn(5), Holdoff: r.Intn(8), Segments: 1 + r.Intn(4)}}
	density := 1 + r.Intn(6)
	for range r.Intn(70) {
		p.samples = append(p.samples, float32(r.Intn(1000))-500)
		p.triggers = append(p.triggers, r.Intn(density) == 0)
	}
	for range r.Intn(5) {
		p.arms = append(p.arms, r.Intn(len(p.samples)+1))
	}
	slices.Sort(p.arms)
	return p
}
