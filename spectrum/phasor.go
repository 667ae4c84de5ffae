package spectrum

import (
	"strobe/api"
	"strobe/common"
	"strobe/number"
	"strobe/rational"
)

// phasor is the set of the complex numbers whose real and imaginary parts lie in two intervals.
type phasor struct {
	real, imaginary rational.Interval
}

func (p phasor) plus(q phasor) phasor {
	return phasor{p.real.Plus(q.real), p.imaginary.Plus(q.imaginary)}
}

// scaled returns the product with a number.
func (p phasor) scaled(x rational.Number) phasor {
	return phasor{p.real.Scaled(x), p.imaginary.Scaled(x)}
}

// conjugate returns the phasor with the opposite imaginary part.
func (p phasor) conjugate() phasor {
	return phasor{p.real, p.imaginary.Negated()}
}

// turned returns the product with the imaginary unit.
func (p phasor) turned() phasor {
	return phasor{p.imaginary.Negated(), p.real}
}

// power returns the squares of the magnitudes, where both parts are independent.
func (p phasor) power() rational.Interval {
	return p.real.Square().Plus(p.imaginary.Square())
}

// enclosed returns the span of the cosine or of the sine of a turn, or ErrLarge if its denominator is too large.
func enclosed(function func(api.Rat, int) (api.Span, api.Errno), turn rational.Number, decimals int) (rational.Interval, api.Errno) {
	// The integer part does not matter, and may have too many digits for a number.
	rest, e := turn.Minus(turn.Floor()).Write()
	if e != api.OK {
		return rational.Interval{}, e
	}
	span, e := function(rest, decimals)
	if e != api.OK {
		return rational.Interval{}, e
	}
	return rational.ReadSpan(span)
}

// circle has the cosines and the sines of the turns 0, 1/n, ..., (n - 1)/n as the parts of phasors.
// They are multiplied by a scale that makes integers of all their decimals, as sums of integers are fast.
type circle struct {
	n          int
	scale      rational.Number
	directions [MaxPoints]phasor
}

// circleOf returns the circle with n points, with valid decimals.
func circleOf(n, decimals int) *circle {
	c := &circle{n: n, scale: rational.Of(1)}
	for range decimals {
		c.scale = c.scale.Times(rational.Of(10))
	}
	for m := range n {
		turn := rational.Of(m).Over(rational.Of(n))
		// These turns have small denominators: there are no errors.
		cosine, _ := enclosed(number.Cos, turn, decimals)
		sine, _ := enclosed(number.Sin, turn, decimals)
		c.directions[m] = phasor{cosine, sine}.scaled(c.scale)
	}
	return c
}

// at returns the direction of the turn m / n, where m is not negative.
func (c *circle) at(m int) phasor {
	return c.directions[m%c.n]
}

// sum returns the sum of phasors that have been multiplied by the scale.
func (c *circle) sum(terms []phasor) phasor {
	return common.Folded(phasor.plus, terms).scaled(rational.Of(1).Over(c.scale))
}

// bin returns the enclosure of a bin of n values.
func (c *circle) bin(values []rational.Number, k int) phasor {
	terms := make([]phasor, c.n)
	for j, x := range values {
		terms[j] = c.at(j * k).conjugate().scaled(x)
	}
	return c.sum(terms)
}

// inverse returns the enclosure of the inverse at an index, of n complex numbers: their real parts, and then their imaginary parts.
func (c *circle) inverse(parts []rational.Number, j int) phasor {
	terms := make([]phasor, c.n)
	for k := range terms {
		direction := c.at(j * k)
		terms[k] = direction.scaled(parts[k]).plus(direction.turned().scaled(parts[c.n+k]))
	}
	return c.sum(terms).scaled(rational.Of(1).Over(rational.Of(c.n)))
}
