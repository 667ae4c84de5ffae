package measure

import (
	"strobe/api"
	"strobe/common"
	"strobe/number"
	"strobe/rational"
)

// rises returns the times of the rising crossings.
func rises(crossings []crossing) []rational.Number {
	var times []rational.Number
	for _, c := range crossings {
		if c.rising {
			times = append(times, c.time)
		}
	}
	return times
}

// widthsOf returns the differences between each rising crossing and the next one, which is falling, or the other way round.
func widthsOf(crossings []crossing, positive bool) []rational.Number {
	times := common.Transformed(crossings, func(c crossing) rational.Number { return c.time })
	var widths []rational.Number
	for i, width := range gaps(times) {
		if crossings[i].rising == positive {
			widths = append(widths, width)
		}
	}
	return widths
}

// beat is the times of at least two rising crossings.
type beat []rational.Number

// beatOf returns the times of the rising crossings, or ErrShort if there are fewer than two.
func beatOf(crossings []crossing) (beat, api.Errno) {
	times := rises(crossings)
	if len(times) < 2 {
		return nil, api.ErrShort
	}
	return times, api.OK
}

// readBeat returns the times of the rising crossings of a level, or the first error.
func readBeat(s []float32, level api.Rat) (beat, api.Errno) {
	crossings, e := readCrossings(s, level)
	if e != api.OK {
		return nil, e
	}
	return beatOf(crossings)
}

// periods returns the number of periods.
func (b beat) periods() int { return len(b) - 1 }

// length returns the difference between the last and the first rising crossing.
func (b beat) length() rational.Number {
	return b[b.periods()].Minus(b[0])
}

// frequency returns the number of periods in a sample interval.
func (b beat) frequency() rational.Number {
	return rational.Of(b.periods()).Over(b.length())
}

// Periods returns the differences between consecutive rising crossings.
func Periods(s []float32, level api.Rat) ([]api.Rat, api.Errno) {
	crossings, e := readCrossings(s, level)
	if e != api.OK {
		return nil, e
	}
	return rational.WriteAll(gaps(rises(crossings)))
}

// Widths returns the positive or the negative pulse widths.
func Widths(s []float32, level api.Rat, positive bool) ([]api.Rat, api.Errno) {
	crossings, e := readCrossings(s, level)
	if e != api.OK {
		return nil, e
	}
	return rational.WriteAll(widthsOf(crossings, positive))
}

// Duty returns the duty cycle.
func Duty(s []float32, level api.Rat) (api.Rat, api.Errno) {
	crossings, errCrossings := readCrossings(s, level)
	b, errBeat := beatOf(crossings)
	if e := common.FirstError(errCrossings, errBeat); e != api.OK {
		return "", e
	}
	// The width that begins at the last rising crossing belongs to no period.
	widths := widthsOf(crossings, true)[:b.periods()]
	return total(widths).Over(b.length()).Write()
}

// Frequency returns the frequency, in periods per sample interval.
func Frequency(s []float32, level api.Rat) (api.Rat, api.Errno) {
	b, e := readBeat(s, level)
	if e != api.OK {
		return "", e
	}
	return b.frequency().Write()
}

// Phase returns the phase of b relative to a, as a fraction of the mean period of a.
func Phase(a, b []float32, level api.Rat) (api.Rat, api.Errno) {
	if e := common.FirstError(number.CheckSamples(a), number.CheckSamples(b)); e != api.OK {
		return "", e
	}
	reference, errReference := readBeat(a, level)
	crossings, errCrossings := readCrossings(b, level)
	others := rises(crossings)
	if e := common.FirstError(errReference, errCrossings, common.ErrorIf(len(others) == 0, api.ErrShort)); e != api.OK {
		return "", e
	}
	periods := others[0].Minus(reference[0]).Times(reference.frequency())
	return periods.Minus(periods.Floor()).Write()
}

// FindJitter returns the jitter of a record.
func FindJitter(s []float32, level api.Rat) (Jitter, api.Errno) {
	b, e := readBeat(s, level)
	if e != api.OK {
		return Jitter{}, e
	}
	periods := gaps(b)
	all := rational.Enclosing(periods[0], periods...)
	numbers, e := rational.WriteAll([]rational.Number{all.High.Minus(all.Low), greatest(gaps(periods)), greatest(b.deviations())})
	if e != api.OK {
		return Jitter{}, e
	}
	return Jitter{Period: numbers[0], Cycle: numbers[1], Error: numbers[2]}, api.OK
}

// deviations returns the differences of the rising crossings from those that all have the mean period between them.
func (b beat) deviations() []rational.Number {
	period := rational.Of(1).Over(b.frequency())
	deviations := make([]rational.Number, len(b))
	for k, time := range b {
		deviations[k] = time.Minus(b[0].Plus(period.Times(rational.Of(k))))
	}
	return deviations
}

// greatest returns the greatest absolute value of some numbers, or 0 if there are none.
func greatest(numbers []rational.Number) rational.Number {
	return rational.Enclosing(rational.Of(0), common.Transformed(numbers, rational.Number.Magnitude)...).High
}
