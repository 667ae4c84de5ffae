package number

import (
	"math"

	"strobe/api"
)

// The form of a float32: the bits of a significand, the exponent of the least subnormal number,
// and the exponent from which on there are no numbers.
const (
	significandBits = 24
	leastExponent   = -149
	endExponent     = 128
)

// Exact returns the exact value of a float32.
func Exact(f float32) (api.Rat, api.Errno) {
	if !isFinite(f) {
		return "", api.ErrForm
	}
	part, exponent := math.Frexp(float64(f))
	significand := integer(int(part * (1 << significandBits)))
	exponent -= significandBits
	power := naturalOf(1).shiftedLeft(max(exponent, -exponent))
	if exponent < 0 {
		return lowest(significand.negative, significand.top, power).write()
	}
	return ratio{significand.negative, significand.top.times(power), naturalOf(1)}.write()
}

func isFinite(f float32) bool {
	return !math.IsNaN(float64(f)) && !math.IsInf(float64(f), 0)
}

// Float returns the nearest float32 to a number.
func Float(a api.Rat) (float32, api.Errno) {
	x, e := read(a)
	if e != api.OK {
		return 0, e
	}
	if x.isZero() {
		return 0, api.OK
	}
	exponent := max(x.binaryExponent()+1-significandBits, leastExponent)
	value := math.Ldexp(float64(x.rounded(exponent)), exponent)
	if value >= math.Ldexp(1, endExponent) {
		return 0, api.ErrLarge
	}
	// 0 less the value is 0, not -0, if a negative number has been rounded to 0.
	if x.negative {
		value = 0 - value
	}
	return float32(value), api.OK
}

// binaryExponent returns the exponent of the greatest power of 2 that is at most the magnitude of a, which is not 0.
func (a ratio) binaryExponent() int {
	exponent := a.top.bitLength() - a.bottom.bitLength()
	top, bottom := a.scaled(exponent)
	if top.compare(bottom) < 0 {
		return exponent - 1
	}
	return exponent
}

// scaled returns two naturals whose quotient is the magnitude of a divided by a power of 2.
func (a ratio) scaled(exponent int) (natural, natural) {
	if exponent < 0 {
		return a.top.shiftedLeft(-exponent), a.bottom
	}
	return a.top, a.bottom.shiftedLeft(exponent)
}

// rounded returns the integer nearest to the magnitude of a divided by a power of 2, the even one of two.
// It fits into one word.
func (a ratio) rounded(exponent int) uint64 {
	top, bottom := a.scaled(exponent)
	quotient, rest := top.over(bottom)
	whole := uint64(0)
	if !quotient.isZero() {
		whole = quotient[0]
	}
	order := rest.shiftedLeft(1).compare(bottom)
	if order > 0 || order == 0 && whole%2 == 1 {
		whole++
	}
	return whole
}

// CheckSamples returns the first error of samples, or OK.
func CheckSamples(l []float32) api.Errno {
	return checkList(l, 0, api.MaxSamples, func(_ int, f float32) api.Errno {
		if !isFinite(f) {
			return api.ErrForm
		}
		return api.OK
	})
}
