package rational

import (
	"strobe/api"
	"strobe/common"
	"strobe/number"
)

// Interval is the set of the numbers from Low to High.
type Interval struct {
	Low, High Number
}

// Around returns the numbers that differ from a center by at most a radius, which is not below 0.
func Around(center, radius Number) Interval {
	return Interval{center.Minus(radius), center.Plus(radius)}
}

// Enclosing returns the least interval that contains some numbers.
func Enclosing(a Number, others ...Number) Interval {
	least := Interval{a, a}
	for _, x := range others {
		if x.Compare(least.Low) < 0 {
			least.Low = x
		}
		if x.Compare(least.High) > 0 {
			least.High = x
		}
	}
	return least
}

// ReadSpan returns the value of a span, or the error of number.CheckSpan.
func ReadSpan(s api.Span) (Interval, api.Errno) {
	if e := number.CheckSpan(s); e != api.OK {
		return Interval{}, e
	}
	low, _ := Read(s.Low)
	high, _ := Read(s.High)
	return Interval{low, high}, api.OK
}

// Write returns the span with a value, or the first error of its ends.
func (a Interval) Write() (api.Span, api.Errno) {
	low, errLow := a.Low.Write()
	high, errHigh := a.High.Write()
	if e := common.FirstError(errLow, errHigh); e != api.OK {
		return api.Span{}, e
	}
	return api.Span{Low: low, High: high}, api.OK
}

// Plus returns the sum.
func (a Interval) Plus(b Interval) Interval {
	return Interval{a.Low.Plus(b.Low), a.High.Plus(b.High)}
}

// Times returns the product.
func (a Interval) Times(b Interval) Interval {
	return Enclosing(a.Low.Times(b.Low), a.Low.Times(b.High), a.High.Times(b.Low), a.High.Times(b.High))
}

// Negated returns the numbers with the opposite sign.
func (a Interval) Negated() Interval {
	return Interval{a.High.Negated(), a.Low.Negated()}
}

// Scaled returns the product with a number.
func (a Interval) Scaled(x Number) Interval {
	if x.Sign() < 0 {
		return a.Negated().Scaled(x.Negated())
	}
	return Interval{a.Low.Times(x), a.High.Times(x)}
}

// Magnitude returns the absolute values.
func (a Interval) Magnitude() Interval {
	switch {
	case a.Low.Sign() >= 0:
		return a
	case a.High.Sign() <= 0:
		return a.Negated()
	}
	return Enclosing(Of(0), a.Low.Negated(), a.High)
}

// Square returns the squares.
func (a Interval) Square() Interval {
	magnitude := a.Magnitude()
	return Interval{magnitude.Low.Square(), magnitude.High.Square()}
}

// Contains reports whether all numbers of another interval are in a.
func (a Interval) Contains(b Interval) bool {
	return a.Low.Compare(b.Low) <= 0 && b.High.Compare(a.High) <= 0
}
