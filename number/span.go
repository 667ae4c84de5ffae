package number

import "strobe/api"

// interval is the value of a span.
type interval struct {
	low, high ratio
}

// readSpan returns the value of a span, or its error.
func readSpan(s api.Span) (interval, api.Errno) {
	low, errLow := read(s.Low)
	high, errHigh := read(s.High)
	if e := first(errLow, errHigh); e != api.OK {
		return interval{}, e
	}
	if low.compare(high) > 0 {
		return interval{}, api.ErrOrder
	}
	return interval{low, high}, api.OK
}

// write returns the span with a value, or the first error of its ends.
func (a interval) write() (api.Span, api.Errno) {
	low, errLow := a.low.write()
	high, errHigh := a.high.write()
	if e := first(errLow, errHigh); e != api.OK {
		return api.Span{}, e
	}
	return api.Span{Low: low, High: high}, api.OK
}

// single returns the interval of one number.
func single(a ratio) interval { return interval{a, a} }

// enclosing returns the least interval that contains some numbers.
func enclosing(a ratio, others ...ratio) interval {
	hull := single(a)
	for _, x := range others {
		if x.compare(hull.low) < 0 {
			hull.low = x
		}
		if x.compare(hull.high) > 0 {
			hull.high = x
		}
	}
	return hull
}

// step returns the interval from n / scale to (n + 1) / scale.
func step(n natural, scale uint64) interval {
	bottom := naturalOf(scale)
	return interval{lowest(false, n, bottom), lowest(false, n.plus(naturalOf(1)), bottom)}
}

func (a interval) negated() interval {
	return interval{a.high.negated(), a.low.negated()}
}

func (a interval) plus(b interval) interval {
	return interval{a.low.plus(b.low), a.high.plus(b.high)}
}

func (a interval) minus(b interval) interval {
	return a.plus(b.negated())
}

func (a interval) times(b interval) interval {
	return enclosing(a.low.times(b.low), a.low.times(b.high), a.high.times(b.low), a.high.times(b.high))
}

// over returns the quotient, or the zero value, which has no ends, if b contains 0.
func (a interval) over(b interval) interval {
	// 0 counts as positive, so a span whose upper end is 0 begins at 0, or has ends of two signs.
	if b.low.isZero() || b.low.negative != b.high.negative {
		return interval{}
	}
	return enclosing(a.low.over(b.low), a.low.over(b.high), a.high.over(b.low), a.high.over(b.high))
}

// CheckSpan returns the first error of a span, or OK.
func CheckSpan(s api.Span) api.Errno {
	_, e := readSpan(s)
	return e
}

// Plus returns the sum of two spans.
func Plus(a, b api.Span) (api.Span, api.Errno) {
	return combine(a, b, readSpan, interval.plus, interval.write)
}

// Minus returns the difference of two spans.
func Minus(a, b api.Span) (api.Span, api.Errno) {
	return combine(a, b, readSpan, interval.minus, interval.write)
}

// Times returns the product of two spans.
func Times(a, b api.Span) (api.Span, api.Errno) {
	return combine(a, b, readSpan, interval.times, interval.write)
}

// Over returns the quotient of two spans.
func Over(a, b api.Span) (api.Span, api.Errno) {
	return combine(a, b, readSpan, interval.over, interval.write)
}

// Compare compares two spans.
func Compare(a, b api.Span) (int, api.Errno) {
	x, errX := readSpan(a)
	y, errY := readSpan(b)
	if e := first(errX, errY); e != api.OK {
		return 0, e
	}
	switch {
	case x.high.compare(y.low) < 0:
		return -1, api.OK
	case x.low.compare(y.high) > 0:
		return 1, api.OK
	case a == b && a.Low == a.High:
		return 0, api.OK
	}
	return 0, api.ErrOpen
}

// Root returns a span that contains the square root of a number.
func Root(a api.Rat) (api.Span, api.Errno) {
	x, e := read(a)
	if e != api.OK {
		return api.Span{}, e
	}
	if x.negative {
		return api.Span{}, api.ErrRange
	}
	return x.root().write()
}

// root returns the single root if it is rational, and otherwise the thousandths around it.
func (a ratio) root() interval {
	top, bottom := a.top.root(), a.bottom.root()
	if top.times(top).compare(a.top) == 0 && bottom.times(bottom).compare(a.bottom) == 0 {
		return single(ratio{false, top, bottom})
	}
	const scale = 1000
	millionths, _ := a.top.times(naturalOf(scale * scale)).over(a.bottom)
	return step(millionths.root(), scale)
}
