package wave

import (
	"slices"

	"strobe/api"
	"strobe/common"
	"strobe/number"
	"strobe/rational"
)

// Bend returns the greatest second difference of samples, without its sign.
func Bend(samples []float32) (api.Rat, api.Errno) {
	if e := number.CheckSamples(samples); e != api.OK {
		return "", e
	}
	if len(samples) < 3 {
		return "", api.ErrShort
	}
	return greatestBend(samples).Write()
}

// greatestBend returns the greatest second difference, without its sign, or 0 if there is none.
func greatestBend(samples []float32) rational.Number {
	rises := common.Transformed(slices.Collect(pieces(samples)), piece.rise)
	var bends []rational.Number
	for i := 1; i < len(rises); i++ {
		bends = append(bends, rises[i].Minus(rises[i-1]).Magnitude())
	}
	return rational.Enclosing(rational.Of(0), bends...).High
}

// Possible reports whether samples do not contradict the bounds of a signal.
func Possible(samples []float32, s Signal) (bool, api.Errno) {
	b, errSignal := readSignal(s)
	if e := common.FirstError(number.CheckSamples(samples), errSignal); e != api.OK {
		return false, e
	}
	most := b.bend.Plus(b.noise.Times(rational.Of(4)))
	return greatestBend(samples).Compare(most) <= 0, api.OK
}

// Area returns the integral of the linear interpolation between two times.
func Area(samples []float32, from, to api.Rat) (api.Rat, api.Errno) {
	s, errTimes := readStretch(samples, from, to)
	if e := common.FirstError(errTimes, s.checkOrder()); e != api.OK {
		return "", e
	}
	return s.area(samples).Write()
}

// AreaSpan returns all integrals that a signal may have between two times.
func AreaSpan(samples []float32, from, to api.Rat, s Signal) (api.Span, api.Errno) {
	between, errTimes := readStretch(samples, from, to)
	b, errSignal := readSignal(s)
	if e := common.FirstError(errTimes, errSignal, between.checkOrder()); e != api.OK {
		return api.Span{}, e
	}
	byNoise := b.noise.Times(between.to.Minus(between.from))
	byBend := b.bend.Times(bulge(between.to).Minus(bulge(between.from)))
	return rational.Around(between.area(samples), byNoise.Plus(byBend)).Write()
}

// area returns the integral of the linear interpolation.
func (s stretch) area(samples []float32) rational.Number {
	return areaUntil(samples, s.to).Minus(areaUntil(samples, s.from))
}

// areaUntil returns the integral of the linear interpolation from 0 to a time.
func areaUntil(samples []float32, t rational.Number) rational.Number {
	i, rest := split(t)
	whole := slices.Collect(pieces(samples[:i+1]))
	area := sum(rational.Of(0), common.Transformed(whole, piece.wholeArea)...)
	// There is no line from the last sample.
	if rest.Sign() == 0 {
		return area
	}
	return area.Plus(pieceAt(samples, i).area(rest))
}

// bulge returns the integral of u (1 - u) / 2 from 0 to a time, where u is the fractional part:
// 1/12 for each sample interval, and u u (3 - 2 u) / 12 for the rest.
func bulge(t rational.Number) rational.Number {
	i, rest := split(t)
	slope := rational.Of(3).Minus(rest.Times(rational.Of(2)))
	return rational.Of(i).Plus(rest.Times(rest).Times(slope)).Over(rational.Of(12))
}

// Extremes returns the least and the greatest value of the linear interpolation between two times.
func Extremes(samples []float32, from, to api.Rat) (api.Span, api.Errno) {
	s, errTimes := readStretch(samples, from, to)
	if e := common.FirstError(errTimes, s.checkOrder()); e != api.OK {
		return api.Span{}, e
	}
	first, rest := split(s.from)
	if rest.Sign() > 0 {
		first++
	}
	last, _ := split(s.to)
	values := []rational.Number{interpolated(samples, s.to)}
	if inner := samples[first:max(first, last+1)]; len(inner) > 0 {
		values = append(values, rational.Exact(slices.Min(inner)), rational.Exact(slices.Max(inner)))
	}
	return rational.Enclosing(interpolated(samples, s.from), values...).Write()
}
