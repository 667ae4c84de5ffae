package measure

import (
	"strobe/api"
	"strobe/common"
	"strobe/number"
	"strobe/rational"
)

// summary is the value of statistics.
type summary struct {
	count       int
	sum, square rational.Number
	ends        rational.Interval
}

// summaryOf returns the statistics of a record.
func summaryOf(s []float32) summary {
	zero := rational.Of(0)
	a := summary{count: len(s), sum: zero, square: zero, ends: rational.Interval{Low: zero, High: zero}}
	if len(s) > 0 {
		a.ends = extremes(s)
	}
	addValue, addSquare := accumulator(), accumulator()
	for x := range values(s) {
		a.sum, a.square = addValue(x), addSquare(x.Times(x))
	}
	return a
}

// readStats returns the value of statistics, or the error of CheckStats.
func readStats(x Stats) (summary, api.Errno) {
	if e := common.InRange(x.Count, 0, api.MaxNumber); e != api.OK {
		return summary{}, e
	}
	numbers, e := rational.ReadAll([]api.Rat{x.Sum, x.Square, x.Min, x.Max})
	if e != api.OK {
		return summary{}, e
	}
	a := summary{x.Count, numbers[0], numbers[1], rational.Interval{Low: numbers[2], High: numbers[3]}}
	if !a.isValid() {
		return summary{}, api.ErrForm
	}
	return a, api.OK
}

// isValid reports whether statistics may be those of values.
func (a summary) isValid() bool {
	low, high := a.ends.Low, a.ends.High
	largest := greatest([]rational.Number{low, high})
	if a.count == 0 {
		return a.sum.Sign() == 0 && a.square.Sign() == 0 && largest.Sign() == 0
	}
	count := rational.Of(a.count)
	return low.Compare(high) <= 0 &&
		a.sum.Compare(count.Times(low)) >= 0 &&
		a.sum.Compare(count.Times(high)) <= 0 &&
		count.Times(a.square).Compare(a.sum.Times(a.sum)) >= 0 &&
		a.square.Compare(count.Times(largest.Times(largest))) <= 0
}

// mean returns the mean of at least one value.
func (a summary) mean() rational.Number {
	return a.sum.Over(rational.Of(a.count))
}

// power returns the mean of the squares of at least one value.
func (a summary) power() rational.Number {
	return a.square.Over(rational.Of(a.count))
}

// merged returns the statistics of all values of both arguments.
func (a summary) merged(b summary) summary {
	switch {
	case a.count == 0:
		return b
	case b.count == 0:
		return a
	}
	return summary{a.count + b.count, a.sum.Plus(b.sum), a.square.Plus(b.square), rational.Enclosing(a.ends.Low, a.ends.High, b.ends.Low, b.ends.High)}
}

// write returns the statistics with a value, or the first error of a number.
func (a summary) write() (Stats, api.Errno) {
	numbers, e := rational.WriteAll([]rational.Number{a.sum, a.square, a.ends.Low, a.ends.High})
	if e != api.OK {
		return Stats{}, e
	}
	return Stats{Count: a.count, Sum: numbers[0], Square: numbers[1], Min: numbers[2], Max: numbers[3]}, api.OK
}

// CheckStats returns the first error of statistics, or OK.
func CheckStats(x Stats) api.Errno {
	_, e := readStats(x)
	return e
}

// Summarize returns the statistics of a record.
func Summarize(s []float32) (Stats, api.Errno) {
	if e := number.CheckSamples(s); e != api.OK {
		return Stats{}, e
	}
	return summaryOf(s).write()
}

// Merge returns the statistics of all values of a and b.
func Merge(a, b Stats) (Stats, api.Errno) {
	x, errX := readStats(a)
	y, errY := readStats(b)
	if e := common.FirstError(errX, errY, common.ErrorIf(x.count+y.count > api.MaxNumber, api.ErrMany)); e != api.OK {
		return Stats{}, e
	}
	return x.merged(y).write()
}

// Moments returns the mean and the variance.
func Moments(x Stats) ([2]api.Rat, api.Errno) {
	a, e := readStats(x)
	if e := common.FirstError(e, common.ErrorIf(a.count == 0, api.ErrZero)); e != api.OK {
		return [2]api.Rat{}, e
	}
	mean := a.mean()
	variance := a.power().Minus(mean.Times(mean))
	numbers, e := rational.WriteAll([]rational.Number{mean, variance})
	if e != api.OK {
		return [2]api.Rat{}, e
	}
	return [2]api.Rat(numbers), api.OK
}
