package spectrum

import (
	"strobe/api"
	"strobe/common"
	"strobe/number"
	"strobe/rational"
)

// Tone returns enclosures of a sampled cosine.
func Tone(n int, cycles, phase api.Rat, decimals int) ([]api.Span, api.Errno) {
	pace, errCycles := rational.Read(cycles)
	first, errPhase := rational.Read(phase)
	if e := common.FirstError(checkPoints(n), errCycles, errPhase, checkDecimals(decimals)); e != api.OK {
		return nil, e
	}
	samples := make([]api.Span, n)
	for j := range samples {
		turn := pace.Times(rational.Of(j)).Over(rational.Of(n)).Plus(first)
		sample, errTurn := enclosed(number.Cos, turn, decimals)
		span, errSpan := sample.Write()
		if e := common.FirstError(errTurn, errSpan); e != api.OK {
			return nil, e
		}
		samples[j] = span
	}
	return samples, api.OK
}

// Leakage returns an enclosure of the bound of a bin of a sampled cosine.
func Leakage(n int, cycles api.Rat, k, decimals int) (api.Span, api.Errno) {
	pace, errCycles := rational.Read(cycles)
	if e := common.FirstError(checkPoints(n), errCycles, checkBin(k, n), checkDecimals(decimals)); e != api.OK {
		return api.Span{}, e
	}
	gaps := []rational.Number{pace.Minus(rational.Of(k)), pace.Plus(rational.Of(k))}
	sines, e := common.Converted(gaps, func(gap rational.Number) (rational.Interval, api.Errno) {
		return enclosed(number.Sin, gap.Over(rational.Of(2*n)), decimals)
	})
	if e != api.OK {
		return api.Span{}, e
	}
	bounds, e := common.Converted(sines, inverseMagnitude)
	if e != api.OK {
		return api.Span{}, e
	}
	return common.Folded(rational.Interval.Plus, bounds).Scaled(rational.Of(1).Over(rational.Of(2))).Write()
}

// inverseMagnitude returns 1 divided by the absolute values of an interval, or ErrZero if it contains 0.
func inverseMagnitude(a rational.Interval) (rational.Interval, api.Errno) {
	one, magnitude := rational.Of(1), a.Magnitude()
	if magnitude.Low.Sign() == 0 {
		return rational.Interval{}, api.ErrZero
	}
	return rational.Interval{Low: one.Over(magnitude.High), High: one.Over(magnitude.Low)}, api.OK
}
