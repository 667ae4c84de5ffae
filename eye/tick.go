package eye

import (
	"iter"

	"strobe/api"
	"strobe/rational"
)

// tick is what a loop computes for a crossing: the number and the expected time, the error (deviation), the corrected time and
// the period after it, all multiplied by a scale that makes integers of all times but the error: they become longer
// with each crossing, and lowest terms of long numbers take far longer than sums and products of integers.
type tick struct {
	number                                        int
	expected, deviation, corrected, period, scale rational.Number
}

// firstTick returns the tick of the first crossing.
func (l loop) firstTick(crossing rational.Number) tick {
	return tick{expected: crossing, deviation: rational.Of(0), corrected: crossing, period: l.period, scale: rational.Of(1)}.refined()
}

// nextTick returns the tick of the crossing after another tick, or the error of this crossing.
func (l loop) nextTick(last tick, crossing rational.Number) (tick, api.Errno) {
	at := crossing.Times(last.scale)
	periods := nearest(at.Minus(last.corrected), last.period)
	if periods.Sign() <= 0 {
		periods = rational.Of(1)
	}
	count, isSmall := periods.Int()
	expected := last.corrected.Plus(last.period.Times(periods))
	deviation := at.Minus(expected)
	next := tick{
		number:    last.number + count,
		expected:  expected,
		deviation: deviation,
		corrected: expected.Plus(l.phase.Times(deviation)),
		period:    last.period.Plus(l.frequency.Times(deviation).Over(periods)),
		scale:     last.scale,
	}
	switch {
	case !isSmall || next.number > api.MaxNumber:
		return tick{}, api.ErrLarge
	case next.period.Sign() <= 0:
		return tick{}, api.ErrState
	}
	return next.refined(), api.OK
}

// nearest returns the integer that is nearest to a / b, and the greater one of two.
func nearest(a, b rational.Number) rational.Number {
	return a.Plus(a).Plus(b).FloorOver(b.Plus(b))
}

// refined returns the tick with the least multiple of its scale that makes integers of the corrected time and of the period.
// Then all expected times are integers, too.
func (t tick) refined() tick {
	factor := t.corrected.Denominator()
	factor = factor.Times(t.period.Times(factor).Denominator())
	return tick{t.number, t.expected.Times(factor), t.deviation.Times(factor), t.corrected.Times(factor), t.period.Times(factor), t.scale.Times(factor)}
}

// isWithin reports whether the absolute value of the error is at most a tolerance.
func (t tick) isWithin(tolerance rational.Number) bool {
	return t.deviation.Magnitude().Compare(tolerance.Times(t.scale)) <= 0
}

// write returns the tick as it is returned.
func (t tick) write() (Tick, api.Errno) {
	numbers, e := rational.WriteAll([]rational.Number{t.expected.Over(t.scale), t.period.Over(t.scale)})
	if e != api.OK {
		return Tick{}, e
	}
	return Tick{Number: t.number, Expected: numbers[0], Period: numbers[1]}, api.OK
}

// follower returns a function that is given the crossings one after the other, and returns the tick of each, or its error.
func (l loop) follower() func(rational.Number) (tick, api.Errno) {
	var last tick
	isFirst := true
	return func(crossing rational.Number) (tick, api.Errno) {
		var e api.Errno
		if isFirst {
			last, isFirst = l.firstTick(crossing), false
		} else {
			last, e = l.nextTick(last, crossing)
		}
		return last, e
	}
}

// visit visits the ticks in their order, until a crossing has an error.
func (r recovery) visit() iter.Seq2[tick, api.Errno] {
	return func(yield func(tick, api.Errno) bool) {
		follow := r.loop.follower()
		for _, crossing := range r.crossings {
			t, e := follow(crossing)
			if !yield(t, e) || e != api.OK {
				return
			}
		}
	}
}

// ticks returns all ticks, or the error of the first crossing that has one.
func (r recovery) ticks() ([]tick, api.Errno) {
	var ticks []tick
	for t, e := range r.visit() {
		if e != api.OK {
			return nil, e
		}
		ticks = append(ticks, t)
	}
	return ticks, api.OK
}
