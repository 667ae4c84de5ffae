package measure_test

import (
	"math/big"

	"strobe/api"
	"strobe/measure"
)

// binsOf returns the number of samples in each bin: it looks at all samples for each bin.
func binsOf(s []float32, low, high *big.Rat, bins int) []int {
	width := over(minus(high, low), integer(bins))
	values := exacts(s)
	counts := make([]int, bins)
	for k := range counts {
		from, to := plus(low, times(width, integer(k))), plus(low, times(width, integer(k+1)))
		for _, x := range values {
			if x.Cmp(from) >= 0 && (x.Cmp(to) < 0 || k == bins-1 && x.Cmp(high) == 0) {
				counts[k]++
			}
		}
	}
	return counts
}

// mode returns the most frequent number that is permitted; of several ones that which is preferred to all others.
func mode(l []*big.Rat, isPermitted func(*big.Rat) bool, sign int) *big.Rat {
	counts := map[string]int{}
	for _, x := range l {
		counts[x.RatString()]++
	}
	var best *big.Rat
	most := 0
	for a, n := range counts {
		x := valid(api.Rat(a))
		if isPermitted(x) && (n > most || n == most && sign*x.Cmp(best) > 0) {
			best, most = x, n
		}
	}
	return best
}

// levelsOf returns the base and the top of a record that has both.
func levelsOf(s []float32) measure.Levels {
	l := exacts(s)
	least, greatest := extremes(l)
	middle := over(plus(least, greatest), integer(2))
	base := mode(l, func(x *big.Rat) bool { return x.Cmp(middle) <= 0 }, -1)
	top := mode(l, func(x *big.Rat) bool { return x.Cmp(middle) > 0 }, 1)
	return measure.Levels{Base: text(base), Top: text(top)}
}

// meanOf returns the mean of some powers of numbers.
func meanOf(l []*big.Rat, power int) *big.Rat {
	sum := integer(0)
	for _, x := range l {
		term := integer(1)
		for range power {
			term = times(term, x)
		}
		sum = plus(sum, term)
	}
	return over(sum, integer(len(l)))
}

// meeting returns the time between two consecutive values from the time i on at which the straight line has a level.
func meeting(i int, a, b, level *big.Rat) *big.Rat {
	return plus(integer(i), over(minus(level, a), minus(b, a)))
}

// crossing is a crossing of a level.
type crossing struct {
	at     *big.Rat
	before int
	rising bool
}

// crossingsOf returns the crossings by the definition.
func crossingsOf(s []float32, level *big.Rat) []crossing {
	var l []crossing
	values := exacts(s)
	for i := 0; i+1 < len(values); i++ {
		a, b := values[i], values[i+1]
		isRising := a.Cmp(level) < 0 && level.Cmp(b) <= 0
		isFalling := a.Cmp(level) >= 0 && level.Cmp(b) > 0
		if isRising || isFalling {
			l = append(l, crossing{meeting(i, a, b, level), i, isRising})
		}
	}
	return l
}

// referenceCrossings returns the result of Crossings.
func referenceCrossings(s []float32, level *big.Rat) ([]measure.Crossing, api.Errno) {
	var l []measure.Crossing
	for _, c := range crossingsOf(s, level) {
		time, e := rat(c.at)
		if e != api.OK {
			return nil, e
		}
		l = append(l, measure.Crossing{Time: time, Rising: c.rising})
	}
	return l, api.OK
}

// referenceWindows returns the result of Windows.
func referenceWindows(s []float32, level, spread *big.Rat) ([]measure.Window, api.Errno) {
	values := exacts(s)
	for _, x := range values {
		if distance(x, level).Cmp(spread) <= 0 {
			return nil, api.ErrOpen
		}
	}
	var l []measure.Window
	for _, c := range crossingsOf(s, level) {
		var times []*big.Rat
		for _, a := range []*big.Rat{minus(values[c.before], spread), plus(values[c.before], spread)} {
			for _, b := range []*big.Rat{minus(values[c.before+1], spread), plus(values[c.before+1], spread)} {
				times = append(times, meeting(c.before, a, b, level))
			}
		}
		least, greatest := extremes(times)
		ends, e := rats([]*big.Rat{least, greatest})
		if e != api.OK {
			return nil, e
		}
		l = append(l, measure.Window{Time: span(ends[0], ends[1]), Rising: c.rising})
	}
	return l, api.OK
}

// zoneOf returns the zone of a value.
func zoneOf(x, low, high *big.Rat) int {
	switch {
	case x.Cmp(low) < 0:
		return 0
	case x.Cmp(high) >= 0:
		return 2
	}
	return 1
}

// referenceTransitions returns the result of Transitions: it looks at all pairs of samples.
func referenceTransitions(s []float32, low, high *big.Rat) ([]measure.Transition, api.Errno) {
	values := exacts(s)
	var l []measure.Transition
	for i, x := range values {
		for k := i + 1; k < len(values); k++ {
			from, to := zoneOf(x, low, high), zoneOf(values[k], low, high)
			if from+to == 2 && from != to {
				start, end := low, high
				if from == 2 {
					start, end = high, low
				}
				times, e := rats([]*big.Rat{meeting(i, x, values[i+1], start), meeting(k-1, values[k-1], values[k], end)})
				if e != api.OK {
					return nil, e
				}
				l = append(l, measure.Transition{Start: times[0], End: times[1], Rising: from == 0})
			}
			if to != 1 {
				break
			}
		}
	}
	return l, api.OK
}

// next returns the index of the first crossing with a direction from an index on, or -1.
func next(l []crossing, from int, rising bool) int {
	for i := from; i < len(l); i++ {
		if l[i].rising == rising {
			return i
		}
	}
	return -1
}

// between returns the differences between the crossings with one direction and the next ones with another direction.
func between(l []crossing, from, to bool) []*big.Rat {
	var differences []*big.Rat
	for i, c := range l {
		if j := next(l, i+1, to); c.rising == from && j >= 0 {
			differences = append(differences, minus(l[j].at, c.at))
		}
	}
	return differences
}

// rising returns the times of the rising crossings.
func rising(l []crossing) []*big.Rat {
	var times []*big.Rat
	for _, c := range l {
		if c.rising {
			times = append(times, c.at)
		}
	}
	return times
}

// referenceDuty returns the result of Duty.
func referenceDuty(s []float32, level *big.Rat) (api.Rat, api.Errno) {
	l := crossingsOf(s, level)
	times := rising(l)
	if len(times) < 2 {
		return "", api.ErrShort
	}
	first, last := times[0], times[len(times)-1]
	sum := integer(0)
	for i, c := range l {
		if c.rising && c.at.Cmp(last) != 0 {
			sum = plus(sum, minus(l[next(l, i+1, false)].at, c.at))
		}
	}
	return rat(over(sum, minus(last, first)))
}

// meanPeriod returns the mean period of at least two rising crossings.
func meanPeriod(times []*big.Rat) *big.Rat {
	return over(minus(times[len(times)-1], times[0]), integer(len(times)-1))
}

// referenceFrequency returns the result of Frequency.
func referenceFrequency(s []float32, level *big.Rat) (api.Rat, api.Errno) {
	times := rising(crossingsOf(s, level))
	if len(times) < 2 {
		return "", api.ErrShort
	}
	return rat(over(integer(1), meanPeriod(times)))
}

// referencePhase returns the result of Phase.
func referencePhase(a, b []float32, level *big.Rat) (api.Rat, api.Errno) {
	x, y := rising(crossingsOf(a, level)), rising(crossingsOf(b, level))
	if len(x) < 2 || len(y) == 0 {
		return "", api.ErrShort
	}
	phase := over(minus(y[0], x[0]), meanPeriod(x))
	whole := new(big.Int).Div(phase.Num(), phase.Denom())
	return rat(minus(phase, new(big.Rat).SetInt(whole)))
}

// referenceJitter returns the result of FindJitter.
func referenceJitter(s []float32, level *big.Rat) (measure.Jitter, api.Errno) {
	times := rising(crossingsOf(s, level))
	if len(times) < 2 {
		return measure.Jitter{}, api.ErrShort
	}
	var periods []*big.Rat
	cycle, deviation := integer(0), integer(0)
	for k, at := range times {
		ideal := plus(times[0], new(big.Rat).Mul(integer(k), meanPeriod(times)))
		_, deviation = extremes([]*big.Rat{deviation, distance(at, ideal)})
		if k > 0 {
			periods = append(periods, minus(at, times[k-1]))
		}
		if k > 1 {
			_, cycle = extremes([]*big.Rat{cycle, distance(periods[k-1], periods[k-2])})
		}
	}
	least, greatest := extremes(periods)
	l, e := rats([]*big.Rat{minus(greatest, least), cycle, deviation})
	if e != api.OK {
		return measure.Jitter{}, e
	}
	return measure.Jitter{Period: l[0], Cycle: l[1], Error: l[2]}, api.OK
}
