package wave

import (
	"strobe/api"
	"strobe/common"
	"strobe/number"
	"strobe/rational"
)

// Linear returns the linear interpolation of samples at a time.
func Linear(samples []float32, at api.Rat) (api.Rat, api.Errno) {
	t, e := readMoment(samples, at)
	if e != api.OK {
		return "", e
	}
	return interpolated(samples, t).Write()
}

// LinearSpan returns all values that a signal may have at a time, by linear interpolation.
func LinearSpan(samples []float32, at api.Rat, s Signal) (api.Span, api.Errno) {
	t, errAt := readMoment(samples, at)
	b, errSignal := readSignal(s)
	if e := common.FirstError(errAt, errSignal); e != api.OK {
		return api.Span{}, e
	}
	return rational.Around(interpolated(samples, t), b.radius(t)).Write()
}

// radius returns the greatest difference of a signal from the linear interpolation at a time.
func (b bounds) radius(t rational.Number) rational.Number {
	_, rest := split(t)
	return b.noise.Plus(b.bend.Times(half(rest.Times(rational.Of(1).Minus(rest)))))
}

// Resampled returns n samples of the linear interpolation.
func Resampled(samples []float32, from, step api.Rat, n int) ([]float32, api.Errno) {
	first, errFrom := rational.Read(from)
	pace, errStep := rational.ReadSigned(step, 1)
	if e := common.FirstError(number.CheckSamples(samples), errFrom, errStep, common.InRange(n, 0, api.MaxSamples)); e != api.OK {
		return nil, e
	}
	timeOf := func(k int) rational.Number { return first.Plus(pace.Times(rational.Of(k))) }
	if n > 0 && !(isTime(timeOf(0), len(samples)) && isTime(timeOf(n-1), len(samples))) {
		return nil, api.ErrRange
	}
	resampled := make([]float32, n)
	for k := range n {
		// A value between two samples is never too large for a float.
		resampled[k] = interpolated(samples, timeOf(k)).Nearest()
	}
	return resampled, api.OK
}

// Refined returns the linear interpolation at n points per sample interval.
func Refined(samples []float32, n int) ([]api.Rat, api.Errno) {
	if e := common.FirstError(number.CheckSamples(samples), common.InRange(n, 1, MaxRefine)); e != api.OK {
		return nil, e
	}
	if len(samples) == 0 {
		return nil, api.OK
	}
	last := len(samples) - 1
	if last*n+1 > api.MaxSamples {
		return nil, api.ErrMany
	}
	var values []rational.Number
	for p := range pieces(samples) {
		for k := range n {
			values = append(values, p.value(rational.Of(k).Over(rational.Of(n))))
		}
	}
	return rational.WriteAll(append(values, rational.Exact(samples[last])))
}
