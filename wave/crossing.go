package wave

import (
	"slices"

	"strobe/api"
	"strobe/common"
	"strobe/number"
	"strobe/rational"
	"strobe/record"
)

// Crossings returns the times at which the linear interpolation crosses a level.
func Crossings(samples []float32, level api.Rat) ([]Crossing, api.Errno) {
	to, e := readLevel(samples, level)
	if e != api.OK {
		return nil, e
	}
	var crossings []Crossing
	sides := record.Signs(samples, to)
	for p := range pieces(samples) {
		c, e := p.crossing(to, sides[p.index] >= 0, sides[p.index+1] >= 0)
		if e != api.OK {
			return nil, e
		}
		if c != (Crossing{}) {
			crossings = append(crossings, c)
		}
	}
	return crossings, api.OK
}

// crossing returns the crossing of a level by a line whose ends are high or low,
// or the zero value, which has no time, if there is none.
func (p piece) crossing(level rational.Number, wasHigh, isHigh bool) (Crossing, api.Errno) {
	if wasHigh == isHigh {
		return Crossing{}, api.OK
	}
	at, e := p.time(level).Write()
	if e != api.OK {
		return Crossing{}, e
	}
	return Crossing{At: at, Up: isHigh}, api.OK
}

// Passages returns time intervals in which a signal surely crosses a level.
func Passages(samples []float32, level api.Rat, s Signal) ([]Passage, api.Errno) {
	to, errLevel := readLevel(samples, level)
	b, errSignal := readSignal(s)
	if e := common.FirstError(errLevel, errSignal); e != api.OK {
		return nil, e
	}
	var passages []Passage
	sides := record.SureSides(samples, to, b.noise)
	for from := range samples {
		end := record.PassageEnd(sides, from)
		if end <= from {
			continue
		}
		isUp := sides[end] > 0
		times := passageTimes(samples[from:end+1], to, b, isUp)
		start := rational.Of(from)
		span, e := times.Plus(rational.Interval{Low: start, High: start}).Write()
		if e != api.OK {
			return nil, e
		}
		passages = append(passages, Passage{Time: span, Up: isUp})
	}
	return passages, api.OK
}

// passageTimes returns the time interval of the passage from the first to the last sample of a record,
// since the first one.
func passageTimes(samples []float32, level rational.Number, b bounds, isUp bool) rational.Interval {
	margin := b.noise.Plus(b.bend.Over(rational.Of(8)))
	if isUp {
		return riseTimes(samples, level.Minus(margin), level.Plus(margin))
	}
	return riseTimes(negated(samples), level.Plus(margin).Negated(), level.Minus(margin).Negated())
}

// riseTimes returns the first time at which the linear interpolation is at least the lower level, and the last time
// at which it is at most the upper level. The first sample is below the upper level, and the last one above the lower level.
func riseTimes(samples []float32, lower, upper rational.Number) rational.Interval {
	first, _ := firstReached(samples, lower)
	// Upside down and backwards the record rises again, and its last time is the first one.
	turned := negated(samples)
	slices.Reverse(turned)
	last, _ := firstReached(turned, upper.Negated())
	return rational.Interval{Low: first, High: rational.Of(len(samples) - 1).Minus(last)}
}

// negated returns a record upside down.
func negated(samples []float32) []float32 {
	changed := slices.Clone(samples)
	for i := range changed {
		changed[i] = -changed[i]
	}
	return changed
}

// firstReached returns the first time at which the linear interpolation is at least a level, if there is one.
func firstReached(samples []float32, level rational.Number) (rational.Number, bool) {
	first := slices.IndexFunc(record.Signs(samples, level), func(sign int) bool { return sign >= 0 })
	switch first {
	case -1:
		return rational.Number{}, false
	case 0:
		return rational.Of(0), true
	}
	return pieceAt(samples, first-1).time(level), true
}

// Reached returns the first time from which on a record that never falls is at least at a level.
func Reached(samples []float32, level api.Rat) (api.Rat, api.Errno) {
	if e := number.CheckSamples(samples); e != api.OK {
		return "", e
	}
	if len(samples) == 0 {
		return "", api.ErrShort
	}
	to, e := rational.Read(level)
	if e != api.OK {
		return "", e
	}
	if !slices.IsSorted(samples) {
		return "", api.ErrOrder
	}
	t, isReached := firstReached(samples, to)
	if !isReached {
		return "", api.ErrNone
	}
	return t.Write()
}
