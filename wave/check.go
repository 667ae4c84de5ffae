package wave

import (
	"strobe/api"
	"strobe/common"
	"strobe/number"
	"strobe/rational"
)

// bounds is the value of a Signal.
type bounds struct {
	bend, noise rational.Number
}

// limits is the value of a Band.
type limits struct {
	guard, peak, noise rational.Number
}

// readSignal returns the value of a signal's bounds, or the first error.
func readSignal(s Signal) (bounds, api.Errno) {
	bend, errBend := rational.ReadSigned(s.Bend, 0)
	noise, errNoise := rational.ReadSigned(s.Noise, 0)
	return bounds{bend, noise}, common.FirstError(errBend, errNoise)
}

// readBand returns the value of a band, or the first error.
func readBand(b Band) (limits, api.Errno) {
	guard, errGuard := rational.ReadSigned(b.Guard, 1)
	if errGuard == api.OK && guard.Compare(rational.Of(1)) >= 0 {
		errGuard = api.ErrRange
	}
	peak, errPeak := rational.ReadSigned(b.Peak, 0)
	noise, errNoise := rational.ReadSigned(b.Noise, 0)
	return limits{guard, peak, noise}, common.FirstError(errGuard, errPeak, errNoise)
}

// CheckSignal returns the first error of a signal's bounds, or OK.
func CheckSignal(s Signal) api.Errno {
	_, e := readSignal(s)
	return e
}

// CheckBand returns the first error of a band, or OK.
func CheckBand(b Band) api.Errno {
	_, e := readBand(b)
	return e
}

// isTime reports whether a number is a time of a record of n samples.
func isTime(t rational.Number, n int) bool {
	return t.Sign() >= 0 && t.Compare(rational.Of(n-1)) <= 0
}

// readTime returns the value of a time of a record of n samples, or its error.
func readTime(at api.Rat, n int) (rational.Number, api.Errno) {
	t, e := rational.Read(at)
	if e == api.OK && !isTime(t, n) {
		e = api.ErrRange
	}
	return t, e
}

// readMoment returns the value of a time of a record, or the first error of both.
func readMoment(samples []float32, at api.Rat) (rational.Number, api.Errno) {
	t, errAt := readTime(at, len(samples))
	return t, common.FirstError(number.CheckSamples(samples), errAt)
}

// readLevel returns the value of a level of a record, or the first error of both.
func readLevel(samples []float32, level api.Rat) (rational.Number, api.Errno) {
	to, errLevel := rational.Read(level)
	return to, common.FirstError(number.CheckSamples(samples), errLevel)
}

// stretch is the values of two times of a record.
type stretch struct {
	from, to rational.Number
}

// readStretch returns the values of two times of a record, or the first error of the arguments.
// Their order is examined by checkOrder, as it comes after the errors of all arguments.
func readStretch(samples []float32, from, to api.Rat) (stretch, api.Errno) {
	first, errFrom := readMoment(samples, from)
	last, errTo := readTime(to, len(samples))
	return stretch{first, last}, common.FirstError(errFrom, errTo)
}

// checkOrder returns ErrOrder if the first time is above the last one.
func (s stretch) checkOrder() api.Errno {
	if s.from.Compare(s.to) > 0 {
		return api.ErrOrder
	}
	return api.OK
}
