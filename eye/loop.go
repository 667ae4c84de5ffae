package eye

import (
	"strobe/api"
	"strobe/common"
	"strobe/rational"
)

// loop is the value of a Loop.
type loop struct {
	period, phase, frequency, tolerance rational.Number
}

// readLoop returns the value of a loop, or its error.
func readLoop(l Loop) (loop, api.Errno) {
	values, e := rational.ReadAll([]api.Rat{l.Period, l.Phase, l.Frequency, l.Tolerance})
	if e != api.OK {
		return loop{}, e
	}
	x := loop{values[0], values[1], values[2], values[3]}
	return x, common.ErrorIf(!x.isValid(), api.ErrRange)
}

// isValid reports whether the numbers of a loop are in their ranges.
func (l loop) isValid() bool {
	return l.period.Sign() > 0 && isGain(l.phase) && isGain(l.frequency) && l.tolerance.Sign() >= 0
}

// isGain reports whether a number is from 0 to 1.
func isGain(x rational.Number) bool {
	return x.Sign() >= 0 && x.Compare(rational.Of(1)) <= 0
}

// readCrossings returns the values of crossings, or their error.
func readCrossings(crossings []api.Rat) ([]rational.Number, api.Errno) {
	if e := common.AtMost(crossings, MaxCrossings); e != api.OK {
		return nil, e
	}
	var times []rational.Number
	for i, crossing := range crossings {
		time, e := rational.Read(crossing)
		if e != api.OK {
			return nil, e
		}
		if i > 0 && time.Compare(times[i-1]) <= 0 {
			return nil, api.ErrOrder
		}
		times = append(times, time)
	}
	return times, api.OK
}

// recovery is a loop with the crossings that it follows.
type recovery struct {
	loop      loop
	crossings []rational.Number
}

// readRecovery returns a loop and crossings, or the first error of both.
func readRecovery(l Loop, crossings []api.Rat) (recovery, api.Errno) {
	x, errLoop := readLoop(l)
	times, errCrossings := readCrossings(crossings)
	return recovery{x, times}, common.FirstError(errLoop, errCrossings)
}

// CheckLoop returns the first error of a loop, or OK.
func CheckLoop(l Loop) api.Errno {
	_, e := readLoop(l)
	return e
}

// Recover returns the ticks of a loop for the crossings of a signal.
func Recover(l Loop, crossings []api.Rat) ([]Tick, api.Errno) {
	r, e := readRecovery(l, crossings)
	if e != api.OK {
		return nil, e
	}
	ticks, e := r.ticks()
	if e != api.OK {
		return nil, e
	}
	return common.Converted(ticks, tick.write)
}

// Lock returns the index of the first crossing from which on the clock is locked.
func Lock(l Loop, crossings []api.Rat) (int, api.Errno) {
	r, e := readRecovery(l, crossings)
	if e != api.OK {
		return 0, e
	}
	ticks, e := r.ticks()
	if e := common.FirstError(e, common.ErrorIf(len(ticks) == 0, api.ErrEmpty)); e != api.OK {
		return 0, e
	}
	from := len(ticks)
	for from > 0 && ticks[from-1].isWithin(r.loop.tolerance) {
		from--
	}
	if from == len(ticks) {
		return 0, api.ErrLock
	}
	return from, api.OK
}

// Bathtub returns how many crossings would spoil a decision at each phase.
func Bathtub(l Loop, crossings []api.Rat, columns int) ([]int, api.Errno) {
	r, e := readRecovery(l, crossings)
	if e := common.FirstError(e, common.InRange(columns, 1, MaxColumns)); e != api.OK {
		return nil, e
	}
	ticks, e := r.ticks()
	if e != api.OK {
		return nil, e
	}
	counts := make([]int, columns)
	for _, t := range ticks {
		width, scaled := r.loop.period.Times(t.scale), t.deviation.Times(rational.Of(columns))
		// The error in columns, rounded up and down: only integers are compared with it.
		up, down := scaled.Negated().FloorOver(width).Negated(), scaled.FloorOver(width)
		for i := range counts {
			if rational.Of(i).Compare(up) < 0 || rational.Of(i-columns).Compare(down) > 0 {
				counts[i]++
			}
		}
	}
	return counts, api.OK
}
