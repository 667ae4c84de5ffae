package probe

import (
	"strobe/api"
	"strobe/common"
	"strobe/number"
)

// CheckAdc returns the first error of a converter, or OK.
func CheckAdc(a Adc) api.Errno {
	if e := common.FirstError(common.InRange(a.Bits, MinBits, MaxBits), common.InRange(a.Step, MinStep, MaxStep)); e != api.OK {
		return e
	}
	return common.FirstError(common.InRange(a.Zero, 0, a.top()), checkGain(a.Gain), number.Check(a.Offset))
}

// checkGain returns the error of a number, and ErrRange if it is not above 0.
func checkGain(gain api.Rat) api.Errno {
	order, e := number.Order(gain, "0")
	if e == api.OK && order <= 0 {
		return api.ErrRange
	}
	return e
}

// checkCode returns the error of a converter, and ErrRange if it does not have the code.
func checkCode(a Adc, code int) api.Errno {
	if e := CheckAdc(a); e != api.OK {
		return e
	}
	return common.InRange(code, 0, a.top())
}

// checkInner returns the error of a code, and ErrClip if it has no interval.
func checkInner(a Adc, code int) api.Errno {
	e := checkCode(a, code)
	if e == api.OK && a.isEnd(code) {
		return api.ErrClip
	}
	return e
}

// checkVoltages returns the error of voltages.
func checkVoltages(volts []api.Rat) api.Errno {
	if e := common.AtMost(volts, api.MaxSamples); e != api.OK {
		return e
	}
	for _, v := range volts {
		if e := number.Check(v); e != api.OK {
			return e
		}
	}
	return api.OK
}

// CheckLevels returns the first error of thresholds, or OK.
func CheckLevels(l Levels) api.Errno {
	if e := number.CheckSamples([]float32{l.Low, l.High}); e != api.OK {
		return e
	}
	if l.Low >= l.High {
		return api.ErrOrder
	}
	return api.OK
}
