package probe

import (
	"math"
	"sort"
	"strings"

	"strobe/api"
	"strobe/common"
	"strobe/number"
	"strobe/rational"
)

// top returns the last code of a converter.
func (a Adc) top() int {
	return 1<<a.Bits - 1
}

// isEnd reports whether a code is the first or the last one.
func (a Adc) isEnd(code int) bool {
	return code == 0 || code == a.top()
}

// nominal returns the nominal voltage of a code.
func (a Adc) nominal(code int) float32 {
	return float32(math.Ldexp(float64(code-a.Zero), a.Step))
}

// edge returns the least voltage of a code: half a step below its nominal voltage. It is a float32, too.
func (a Adc) edge(code int) float32 {
	return float32(math.Ldexp(float64(2*(code-a.Zero)-1), a.Step-1))
}

// interval returns the interval of a code.
func (a Adc) interval(code int) api.Span {
	return spanOf(a.edge(code), a.edge(code+1))
}

// spanOf returns the span with the exact values of two floats.
func spanOf(low, high float32) api.Span {
	return api.Span{Low: exact(low), High: exact(high)}
}

// exact returns the exact value of a float that is finite.
func exact(f float32) api.Rat {
	value, _ := number.Exact(f)
	return value
}

// code returns the code of a valid voltage, and the end at which the voltage is clipped, or 0.
func (a Adc) code(volts api.Rat) (int, int) {
	nearest := nearestFloat(volts)
	// The last code has an upper edge here as well: what reaches it is clipped.
	code := sort.Search(a.top()+2, func(c int) bool { return isBelow(volts, nearest, a.edge(c)) }) - 1
	switch {
	case code < 0:
		return 0, -1
	case code > a.top():
		return a.top(), 1
	}
	return code, 0
}

// nearestFloat returns the nearest float to a valid number, or an infinity if it is too large.
func nearestFloat(a api.Rat) float32 {
	f, e := number.Float(a)
	if e == api.OK {
		return f
	}
	if strings.HasPrefix(string(a), "-") {
		return float32(math.Inf(-1))
	}
	return float32(math.Inf(1))
}

// isBelow reports whether a number is below an edge. As rounding keeps the order, the nearest float to the number decides,
// unless it is the edge itself.
func isBelow(a api.Rat, nearest, edge float32) bool {
	if nearest != edge {
		return nearest < edge
	}
	order, _ := number.Order(a, exact(edge))
	return order < 0
}

// sample returns the nominal voltage of the code of a valid voltage.
func (a Adc) sample(volts api.Rat) float32 {
	code, _ := a.code(volts)
	return a.nominal(code)
}

// Full returns the lowest and the highest nominal voltage of a converter.
func Full(a Adc) (api.Span, api.Errno) {
	if e := CheckAdc(a); e != api.OK {
		return api.Span{}, e
	}
	return spanOf(a.nominal(0), a.nominal(a.top())), api.OK
}

// Code returns the code of a voltage, and whether it was clipped: -1 at the lower end, 1 at the upper end, 0 otherwise.
func Code(a Adc, volts api.Rat) (int, int, api.Errno) {
	if e := common.FirstError(CheckAdc(a), number.Check(volts)); e != api.OK {
		return 0, 0, e
	}
	code, end := a.code(volts)
	return code, end, api.OK
}

// Volts returns the nominal voltage of a code.
func Volts(a Adc, code int) (float32, api.Errno) {
	if e := checkCode(a, code); e != api.OK {
		return 0, e
	}
	return a.nominal(code), api.OK
}

// Interval returns the nominal voltages that have a code.
func Interval(a Adc, code int) (api.Span, api.Errno) {
	if e := checkInner(a, code); e != api.OK {
		return api.Span{}, e
	}
	return a.interval(code), api.OK
}

// True returns the true voltages that have a code, by the calibration.
func True(a Adc, code int) (api.Span, api.Errno) {
	if e := checkInner(a, code); e != api.OK {
		return api.Span{}, e
	}
	interval := a.interval(code)
	// Without a calibration the nominal voltages are the true ones.
	if a == a.calibrated("1", "0") {
		return interval, api.OK
	}
	low, errLow := a.trueVolts(interval.Low)
	high, errHigh := a.trueVolts(interval.High)
	if e := common.FirstError(errLow, errHigh); e != api.OK {
		return api.Span{}, e
	}
	return api.Span{Low: low, High: high}, api.OK
}

// calibrated returns a copy of a converter with another calibration.
func (a Adc) calibrated(gain, offset api.Rat) Adc {
	changed := a
	changed.Gain, changed.Offset = gain, offset
	return changed
}

// trueVolts returns the true voltage of a nominal voltage.
func (a Adc) trueVolts(nominal api.Rat) (api.Rat, api.Errno) {
	return read(a.Gain).Times(read(nominal)).Plus(read(a.Offset)).Write()
}

// read returns the value of a valid number.
func read(a api.Rat) rational.Number {
	x, _ := rational.Read(a)
	return x
}

// Calibrated returns a converter whose calibration fits two marks.
func Calibrated(a Adc, first, second Mark) (Adc, api.Errno) {
	e := common.FirstError(checkCode(a, first.Code), number.Check(first.Volts), checkCode(a, second.Code), number.Check(second.Volts))
	if e != api.OK {
		return Adc{}, e
	}
	if first.Code == second.Code {
		return Adc{}, api.ErrTwice
	}
	nominal, volts := read(exact(a.nominal(first.Code))), read(first.Volts)
	run := read(exact(a.nominal(second.Code))).Minus(nominal)
	slope := read(second.Volts).Minus(volts).Over(run)
	if slope.Sign() <= 0 {
		return Adc{}, api.ErrRange
	}
	gain, errGain := slope.Write()
	offset, errOffset := volts.Minus(slope.Times(nominal)).Write()
	if e := common.FirstError(errGain, errOffset); e != api.OK {
		return Adc{}, e
	}
	return a.calibrated(gain, offset), api.OK
}
