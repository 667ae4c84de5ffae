package wave

import (
	"slices"

	"strobe/api"
	"strobe/common"
	"strobe/number"
	"strobe/rational"
)

// cubicSamples is the number of samples that the cubic interpolation uses.
const cubicSamples = 4

// cubic is the cubic interpolation at a time: the index of the first sample that it uses, and for each of the samples
// the time less that of the sample, and the weight.
type cubic struct {
	first   int
	gaps    [cubicSamples]rational.Number
	weights [cubicSamples]rational.Number
}

// readCubic returns the cubic interpolation at a time of a record, or the first error of both.
func readCubic(samples []float32, at api.Rat) (cubic, api.Errno) {
	if e := number.CheckSamples(samples); e != api.OK {
		return cubic{}, e
	}
	if len(samples) < cubicSamples {
		return cubic{}, api.ErrShort
	}
	t, e := readTime(at, len(samples))
	if e != api.OK {
		return cubic{}, e
	}
	return cubicAt(t, len(samples)), api.OK
}

// cubicAt returns the cubic interpolation at a time of a record of n samples.
func cubicAt(t rational.Number, n int) cubic {
	whole, _ := split(t)
	c := cubic{first: min(max(whole-1, 0), n-cubicSamples)}
	for k := range c.gaps {
		c.gaps[k] = t.Minus(rational.Of(c.first + k))
	}
	for k := range c.weights {
		c.weights[k] = rational.Of(1)
		for j, gap := range c.gaps {
			if j != k {
				c.weights[k] = c.weights[k].Times(gap).Over(rational.Of(k - j))
			}
		}
	}
	return c
}

// value returns the value of the interpolation.
func (c cubic) value(samples []float32) rational.Number {
	terms := c.weights
	for k := range terms {
		terms[k] = terms[k].Times(rational.Exact(samples[c.first+k]))
	}
	return sum(rational.Of(0), terms[:]...)
}

// radius returns the greatest difference of a signal from the interpolation, for bounds of its fourth derivative
// and of the noise of its samples.
func (c cubic) radius(fourth, noise rational.Number) rational.Number {
	product := rational.Of(1)
	for _, gap := range c.gaps {
		product = product.Times(gap)
	}
	magnitudes := common.Transformed(c.weights[:], rational.Number.Magnitude)
	byNoise := noise.Times(sum(rational.Of(0), magnitudes...))
	return byNoise.Plus(fourth.Times(product.Magnitude()).Over(rational.Of(24)))
}

// Weights returns the index of the first of four samples, and the weights of the cubic interpolation at a time.
func Weights(samples []float32, at api.Rat) (int, []api.Rat, api.Errno) {
	c, e := readCubic(samples, at)
	if e != api.OK {
		return 0, nil, e
	}
	weights, e := rational.WriteAll(c.weights[:])
	if e != api.OK {
		return 0, nil, e
	}
	return c.first, weights, api.OK
}

// Cubic returns the cubic interpolation of samples at a time.
func Cubic(samples []float32, at api.Rat) (api.Rat, api.Errno) {
	c, e := readCubic(samples, at)
	if e != api.OK {
		return "", e
	}
	return c.value(samples).Write()
}

// CubicSpan returns all values that a signal may have at a time, by a bound of its fourth derivative.
func CubicSpan(samples []float32, at, fourth, noise api.Rat) (api.Span, api.Errno) {
	c, errAt := readCubic(samples, at)
	derivative, errFourth := rational.ReadSigned(fourth, 0)
	spread, errNoise := rational.ReadSigned(noise, 0)
	if e := common.FirstError(errAt, errFourth, errNoise); e != api.OK {
		return api.Span{}, e
	}
	return rational.Around(c.value(samples), c.radius(derivative, spread)).Write()
}

// Poly returns the value of a polynomial at a time.
func Poly(coeffs []api.Rat, at api.Rat) (api.Rat, api.Errno) {
	if e := common.AtMost(coeffs, MaxCoeffs); e != api.OK {
		return "", e
	}
	values, errCoeffs := rational.ReadAll(coeffs)
	t, errAt := rational.Read(at)
	if e := common.FirstError(errCoeffs, errAt); e != api.OK {
		return "", e
	}
	total := rational.Of(0)
	for _, value := range slices.Backward(values) {
		total = total.Times(t).Plus(value)
	}
	return total.Write()
}
