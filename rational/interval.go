package rational

import (
	"strobe/api"
	"strobe/common"
	"strobe/number"
)

// Interval is the set of the numbers from Low to High.
type Interval struct {
	Low, High Number
}

// Around returns the numbers that differ from a center by at most a radius, which is not below 0.
func Around(center, radius Number) Interval {
	return Interval{center.Minus(radius), center.Plus(radius)}
}

// Enclosing returns the least interval that contains some numbers.
func Enclosing(a Number, others ...Number) Interval {
	least := Interval{a, a}
	for _, x := range others {
		if x.Compare(least.Low) < 0 {
			least.Low = x
		}
		if x.Compare(least.High) > 0 {
			least.High = x
		}
	}
	return least
}

// ReadSpan returns the value of a span, or the error of number.CheckSpan.
func ReadSpan(s api.Span) (Interval, api.Errno) {
	if e := number.CheckSpan(s); e != api.OK {
		return Interval{}, e
	}
	low, _ := Read(s.Low)
	high, _ := Read(s.High)
	return Interval{low, high}, api.OK
}

// Write returns the span with a value, or the first error of its ends.
func (a Interval) Write() (api.Span, api.Errno) {
	low, errLow := a.Low.Write()
	high, errHigh := a.High.Write()
	if e := common.FirstError(errLow, errHigh); e != api.OK {
		return api.Span{}, e
	}
	return api.Span{Low: low, High: high}, api.OK
}

// Plus returns the sum.
func (a Interval) Plus(b Interval) Interval {
	return Interval{a.Low.Plus(b.Low), a.High.Plus(b.High)}
}

// Times returns the product.
func (a Interval) Times(b Interval) Interval {
	return Enclosing(a.Low.Times(b.Low), a.Low.Times(b.High), a.High.Times(b.Low), a.High.Times(b.High))
}
