package wave

import (
	"strconv"

	"strobe/api"
	"strobe/common"
	"strobe/number"
	"strobe/rational"
)

// The span that contains pi.
const (
	piLow  = "3141592653589/1000000000000"
	piHigh = "314159265359/100000000000"
)

// maxDenominator is the greatest denominator of the time and of the guard band.
const maxDenominator = 1000

// The products of the kernel and a sample are extended to multiples of 1 / productScale.
const productScale = 1000000000000

// SincSpan returns all values that a band-limited signal may have at a time.
func SincSpan(samples []float32, at api.Rat, b Band) (api.Span, api.Errno) {
	t, errAt := readMoment(samples, at)
	l, errBand := readBand(b)
	if e := common.FirstError(errAt, errBand, checkDenominator(t), checkDenominator(l.guard)); e != api.OK {
		return api.Span{}, e
	}
	i, rest := split(t)
	if rest.Sign() == 0 {
		return rational.Around(rational.Exact(samples[i]), l.noise).Write()
	}
	halfGuard, _ := number.Mul(b.Guard, "1/2")
	products := make([]rational.Interval, len(samples))
	for k, sample := range samples {
		gap, _ := number.Sub(at, api.Rat(strconv.Itoa(k)))
		products[k] = extended(kernel(gap, halfGuard).Times(rational.Around(rational.Exact(sample), l.noise)))
	}
	return sum(rational.Around(rational.Of(0), l.tail(t, len(samples))), products...).Write()
}

// checkDenominator returns ErrLarge if a number has a denominator that is too large.
func checkDenominator(a rational.Number) api.Errno {
	if a.Denominator().Compare(rational.Of(maxDenominator)) > 0 {
		return api.ErrLarge
	}
	return api.OK
}

// kernel returns the computed kernel at x, which is not 0, for half of a guard band. With denominators of at most
// maxDenominator its numbers have far fewer digits than a number may have: there are no errors.
func kernel(x, halfGuard api.Rat) rational.Interval {
	wide := sinc(x)
	narrow, _ := number.Mul(x, halfGuard)
	window := sinc(narrow)
	square, _ := number.Times(window, window)
	product, _ := number.Times(wide, square)
	interval, _ := rational.ReadSpan(product)
	return interval
}

// sinc returns a span that contains sin(pi x) / (pi x), where x is not 0.
func sinc(x api.Rat) api.Span {
	turn, _ := number.Mul(x, "1/2")
	sine, _ := number.Sin(turn, number.MaxDecimals)
	angle, _ := number.Times(api.Span{Low: piLow, High: piHigh}, api.Span{Low: x, High: x})
	quotient, _ := number.Over(sine, angle)
	return quotient
}

// extended returns an interval whose ends are the next multiples of 1 / productScale outside of another one.
func extended(a rational.Interval) rational.Interval {
	scale := rational.Of(productScale)
	floor := func(x rational.Number) rational.Number { return x.Times(scale).Floor().Over(scale) }
	return rational.Interval{Low: floor(a.Low), High: floor(a.High.Negated()).Negated()}
}

// tail returns a bound of the sum over all integers outside of a record of n samples.
func (l limits) tail(t rational.Number, n int) rational.Number {
	one := rational.Of(1)
	decay := func(c rational.Number) rational.Number {
		square := c.Times(c)
		return one.Over(square.Times(c)).Plus(one.Over(square.Times(rational.Of(2))))
	}
	factor := l.peak.Times(rational.Of(4)).Over(rational.Of(31).Times(l.guard).Times(l.guard))
	return factor.Times(decay(t.Plus(one)).Plus(decay(rational.Of(n).Minus(t))))
}
