package spectrum_test

import (
	"math/big"

	"strobe/api"
	"strobe/number"
)

// interval is the value of a span.
type interval struct {
	low, high *big.Rat
}

// hull returns the least interval that contains some numbers.
func hull(l ...*big.Rat) interval {
	x := interval{l[0], l[0]}
	for _, a := range l {
		if a.Cmp(x.low) < 0 {
			x.low = a
		}
		if a.Cmp(x.high) > 0 {
			x.high = a
		}
	}
	return x
}

// product returns the product of a number and an interval.
func product(x *big.Rat, a interval) interval {
	return hull(times(x, a.low), times(x, a.high))
}

func (a interval) plus(b interval) interval {
	return interval{plus(a.low, b.low), plus(a.high, b.high)}
}

func (a interval) minus(b interval) interval {
	return interval{minus(a.low, b.high), minus(a.high, b.low)}
}

// contains reports whether a number is in an interval.
func (a interval) contains(x *big.Rat) bool {
	return a.low.Cmp(x) <= 0 && x.Cmp(a.high) <= 0
}

// squared returns the set of the squares of an interval.
func (a interval) squared() interval {
	squares := hull(times(a.low, a.low), times(a.high, a.high))
	if a.contains(integer(0)) {
		squares.low = integer(0)
	}
	return squares
}

// write returns the span with a value, or the first error of its ends.
func (a interval) write() (api.Span, api.Errno) {
	ends, e := rats([]*big.Rat{a.low, a.high})
	if e != api.OK {
		return api.Span{}, e
	}
	return span(ends[0], ends[1]), api.OK
}

// intervalOf returns the value of a span.
func intervalOf(s api.Span) interval { return interval{valid(s.Low), valid(s.High)} }

// turned returns the interval that number.Cos or number.Sin tells of a turn.
func turned(function func(api.Rat, int) (api.Span, api.Errno), turn *big.Rat, decimals int) interval {
	s, e := function(text(turn), decimals)
	if e != api.OK {
		panic("no cosine of the turn " + turn.RatString())
	}
	return intervalOf(s)
}

// referenceBin returns the enclosures of a bin, by the definition.
func referenceBin(values []*big.Rat, k, decimals int) [2]interval {
	zero := interval{integer(0), integer(0)}
	bin := [2]interval{zero, zero}
	for j, x := range values {
		turn := big.NewRat(int64(j*k), int64(len(values)))
		bin[0] = bin[0].plus(product(x, turned(number.Cos, turn, decimals)))
		bin[1] = bin[1].plus(product(new(big.Rat).Neg(x), turned(number.Sin, turn, decimals)))
	}
	return bin
}

// referencePower returns the power of a bin.
func referencePower(values []*big.Rat, k, decimals int) interval {
	bin := referenceBin(values, k, decimals)
	return bin[0].squared().plus(bin[1].squared())
}

// referencePeak returns the result of Peak.
func referencePeak(values []*big.Rat, decimals int) (int, api.Errno) {
	var powers []interval
	for k := 0; k <= len(values)/2; k++ {
		powers = append(powers, referencePower(values, k, decimals))
	}
	for k, p := range powers {
		below := 0
		for _, q := range powers {
			if q.high.Cmp(p.low) < 0 {
				below++
			}
		}
		if below == len(powers)-1 {
			return k, api.OK
		}
	}
	return 0, api.ErrOpen
}

// referenceInverse returns the enclosures of the inverse at an index, by the definition.
func referenceInverse(c []complex64, j int) [2]interval {
	n := integer(len(c))
	zero := interval{integer(0), integer(0)}
	sum := [2]interval{zero, zero}
	for k, x := range c {
		turn := big.NewRat(int64(j*k), int64(len(c)))
		cosine, sine := turned(number.Cos, turn, 12), turned(number.Sin, turn, 12)
		a, b := exact(real(x)), exact(imag(x))
		sum[0] = sum[0].plus(product(a, cosine).minus(product(b, sine)))
		sum[1] = sum[1].plus(product(a, sine).plus(product(b, cosine)))
	}
	share := over(integer(1), n)
	return [2]interval{product(share, sum[0]), product(share, sum[1])}
}

// toleranceOf returns the tolerance of floats.
func toleranceOf(floats []float32) *big.Rat {
	sum := integer(0)
	for _, f := range floats {
		sum = plus(sum, magnitude(exact(f)))
	}
	return plus(over(sum, integer(1<<20)), exact(power(-126)))
}

// partsOf returns the real and the imaginary parts of complex numbers.
func partsOf(c []complex64) []float32 {
	var floats []float32
	for _, x := range c {
		floats = append(floats, real(x), imag(x))
	}
	return floats
}

// isAccepted reports whether complex numbers are within a tolerance of enclosures.
func isAccepted(c []complex64, tolerance *big.Rat, enclosures func(int) [2]interval) bool {
	for i, x := range c {
		parts := enclosures(i)
		for p, f := range []float32{real(x), imag(x)} {
			for _, end := range []*big.Rat{parts[p].low, parts[p].high} {
				if magnitude(minus(end, exact(f))).Cmp(tolerance) > 0 {
					return false
				}
			}
		}
	}
	return true
}

// isSpectrum reports whether a list is accepted as the spectrum of samples.
func isSpectrum(l []float32, c []complex64) bool {
	var values []*big.Rat
	for _, f := range l {
		values = append(values, exact(f))
	}
	return isAccepted(c, toleranceOf(l), func(k int) [2]interval { return referenceBin(values, k, 12) })
}

// isInverse reports whether a list is accepted as the inverse of complex numbers.
func isInverse(c, v []complex64) bool {
	return isAccepted(v, toleranceOf(partsOf(c)), func(j int) [2]interval { return referenceInverse(c, j) })
}
