package probe

import (
	"strobe/api"
	"strobe/common"
	"strobe/number"
)

// comparator returns a function that is called for the samples in order, and keeps the value of the line.
func comparator(l Levels, value bool) func(float32) bool {
	return func(sample float32) bool {
		value = sample >= l.High || value && sample > l.Low
		return value
	}
}

// Digital returns the digital line of samples.
func Digital(samples []float32, l Levels, before bool) ([]bool, api.Errno) {
	if e := common.FirstError(number.CheckSamples(samples), CheckLevels(l)); e != api.OK {
		return nil, e
	}
	return common.Transformed(samples, comparator(l, before)), api.OK
}

// Changes returns the times at which a line changes.
func Changes(line []bool, before bool) ([]int, api.Errno) {
	if e := common.AtMost(line, api.MaxSamples); e != api.OK {
		return nil, e
	}
	var times []int
	for i, value := range line {
		if value != before {
			times = append(times, i)
		}
		before = value
	}
	return times, api.OK
}

// FromChanges returns the line with n samples that changes at some times.
func FromChanges(times []int, before bool, n int) ([]bool, api.Errno) {
	if e := common.FirstError(common.AtMost(times, api.MaxSamples), common.InRange(n, 0, api.MaxSamples), checkTimes(times, n)); e != api.OK {
		return nil, e
	}
	line := make([]bool, n)
	value, next := before, 0
	for i := range line {
		if next < len(times) && times[next] == i {
			value = !value
			next++
		}
		line[i] = value
	}
	return line, api.OK
}

// checkTimes returns the error of the first time that is not from 0 to n - 1, or not above the one before.
func checkTimes(times []int, n int) api.Errno {
	last := -1
	for _, time := range times {
		if e := common.InRange(time, 0, n-1); e != api.OK {
			return e
		}
		if time <= last {
			return api.ErrOrder
		}
		last = time
	}
	return api.OK
}
