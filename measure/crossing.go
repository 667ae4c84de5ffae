package measure

import (
	"iter"
	"slices"

	"strobe/api"
	"strobe/common"
	"strobe/number"
	"strobe/rational"
	"strobe/record"
)

// readLevel returns the value of a level of a record, or the first error of both.
func readLevel(s []float32, level api.Rat) (rational.Number, api.Errno) {
	to, errLevel := rational.Read(level)
	return to, common.FirstError(number.CheckSamples(s), errLevel)
}

// readThresholds returns the values of two levels of a record, or the first error of all; it is ErrOrder if the first level
// is not below the second one.
func readThresholds(s []float32, low, high api.Rat) (rational.Interval, api.Errno) {
	lower, errLow := readLevel(s, low)
	upper, errHigh := rational.Read(high)
	e := common.FirstError(errLow, errHigh, common.ErrorIf(lower.Compare(upper) >= 0, api.ErrOrder))
	return rational.Interval{Low: lower, High: upper}, e
}

// crossing is a crossing of a level.
type crossing struct {
	time   rational.Number
	rising bool
}

// readCrossings returns the crossings of a level, or the first error of the record and the level.
func readCrossings(s []float32, level api.Rat) ([]crossing, api.Errno) {
	to, e := readLevel(s, level)
	if e != api.OK {
		return nil, e
	}
	var found []crossing
	for i, rising := range changes(record.Signs(s, to)) {
		found = append(found, crossing{meeting(s, i, to), rising})
	}
	return found, api.OK
}

// changes visits the samples between which and the next one there is a crossing, and says whether it is rising.
// A sample is high if its side is not -1.
func changes(sides []int) iter.Seq2[int, bool] {
	return func(yield func(int, bool) bool) {
		for i := 1; i < len(sides); i++ {
			wasHigh, isHigh := sides[i-1] >= 0, sides[i] >= 0
			if wasHigh != isHigh && !yield(i-1, isHigh) {
				return
			}
		}
	}
}

// meeting returns the time between a sample and the next one at which the straight line through both has a level.
func meeting(s []float32, i int, level rational.Number) rational.Number {
	from, to := rational.Exact(s[i]), rational.Exact(s[i+1])
	return rational.Of(i).Plus(partOfWay(from, to, level))
}

// partOfWay returns the part of the way from one value to another one at which there is a level.
func partOfWay(from, to, level rational.Number) rational.Number {
	return level.Minus(from).Over(to.Minus(from))
}

// write returns the crossing as it is returned.
func (c crossing) write() (Crossing, api.Errno) {
	time, e := c.time.Write()
	if e != api.OK {
		return Crossing{}, e
	}
	return Crossing{Time: time, Rising: c.rising}, api.OK
}

// Crossings returns all crossings of a level.
func Crossings(s []float32, level api.Rat) ([]Crossing, api.Errno) {
	found, e := readCrossings(s, level)
	if e != api.OK {
		return nil, e
	}
	return common.Converted(found, crossing.write)
}

// Windows returns the intervals that contain the crossings of a level if each sample has an error.
func Windows(s []float32, level, e api.Rat) ([]Window, api.Errno) {
	to, errLevel := readLevel(s, level)
	spread, errSpread := rational.ReadSigned(e, 0)
	if err := common.FirstError(errLevel, errSpread); err != api.OK {
		return nil, err
	}
	sides := record.SureSides(s, to, spread)
	if slices.Contains(sides, 0) {
		return nil, api.ErrOpen
	}
	var windows []Window
	for i, rising := range changes(sides) {
		time, err := window(s, i, to, spread).Write()
		if err != api.OK {
			return nil, err
		}
		windows = append(windows, Window{Time: time, Rising: rising})
	}
	return windows, api.OK
}

// window returns the interval of the times at which the straight line between a sample and the next one has a level
// if both samples may differ from their values.
func window(s []float32, i int, level, spread rational.Number) rational.Interval {
	from := rational.Around(rational.Exact(s[i]), spread)
	to := rational.Around(rational.Exact(s[i+1]), spread)
	// Greater values of both samples make a rising crossing earlier and a falling one later, so the other combinations
	// of their ends lie between these two.
	parts := rational.Enclosing(partOfWay(from.Low, to.Low, level), partOfWay(from.High, to.High, level))
	return parts.Plus(rational.Around(rational.Of(i), rational.Of(0)))
}

// Transitions returns all transitions between two thresholds.
func Transitions(s []float32, low, high api.Rat) ([]Transition, api.Errno) {
	between, e := readThresholds(s, low, high)
	if e != api.OK {
		return nil, e
	}
	zones := zonesOf(s, between)
	var transitions []Transition
	for from := range s {
		end := record.PassageEnd(zones, from)
		if end == from {
			continue
		}
		first, last := between.Low, between.High
		rising := zones[end] > 0
		if !rising {
			first, last = last, first
		}
		times, e := rational.WriteAll([]rational.Number{meeting(s, from, first), meeting(s, end-1, last)})
		if e != api.OK {
			return nil, e
		}
		transitions = append(transitions, Transition{Start: times[0], End: times[1], Rising: rising})
	}
	return transitions, api.OK
}

// zonesOf returns for each sample -1 if it is below the lower threshold, 1 if it is at least the upper one, and otherwise 0.
func zonesOf(s []float32, between rational.Interval) []int {
	return common.Combined(record.Signs(s, between.Low), record.Signs(s, between.High), func(lower, upper int) int {
		switch {
		case lower < 0:
			return -1
		case upper >= 0:
			return 1
		}
		return 0
	})
}
