package wave_test

import (
	"math/big"
	"slices"

	"strobe/api"
	"strobe/wave"
)

// whole returns the greatest integer that is not above a time.
func whole(t *big.Rat) int {
	return int(new(big.Int).Div(t.Num(), t.Denom()).Int64())
}

// line returns the linear interpolation at a time: the weighted mean of the samples before and after it.
func line(samples []float32, t *big.Rat) *big.Rat {
	i := min(whole(t), len(samples)-1)
	if i == len(samples)-1 {
		return exact(samples[i])
	}
	before, after := minus(integer(i+1), t), minus(t, integer(i))
	return plus(times(before, exact(samples[i])), times(after, exact(samples[i+1])))
}

// arch returns u (1 - u) / 2 for the fractional part u of a time.
func arch(t *big.Rat) *big.Rat {
	u := minus(t, integer(whole(t)))
	return times(times(u, minus(integer(1), u)), big.NewRat(1, 2))
}

// radius returns the greatest difference of a signal from the linear interpolation.
func radius(t *big.Rat, s wave.Signal) *big.Rat {
	return plus(valid(s.Noise), times(valid(s.Bend), arch(t)))
}

// lagrange returns the first sample and the weights of the cubic interpolation, by the definition.
func lagrange(t *big.Rat, n int) (int, [4]*big.Rat) {
	f := whole(t) - 1
	if f < 0 {
		f = 0
	}
	if f > n-4 {
		f = n - 4
	}
	var weights [4]*big.Rat
	for k := f; k <= f+3; k++ {
		top, bottom := integer(1), integer(1)
		for j := f; j <= f+3; j++ {
			if j != k {
				top, bottom = times(top, minus(t, integer(j))), times(bottom, integer(k-j))
			}
		}
		weights[k-f] = over(top, bottom)
	}
	return f, weights
}

// cubicValue returns the cubic interpolation.
func cubicValue(samples []float32, t *big.Rat) *big.Rat {
	f, weights := lagrange(t, len(samples))
	value := integer(0)
	for k, w := range weights {
		value = plus(value, times(w, exact(samples[f+k])))
	}
	return value
}

// cubicRadius returns the greatest difference of a signal from the cubic interpolation.
func cubicRadius(n int, t, fourth, noise *big.Rat) *big.Rat {
	f, weights := lagrange(t, n)
	total, product := integer(0), integer(1)
	for k, w := range weights {
		total = plus(total, new(big.Rat).Abs(w))
		product = times(product, minus(t, integer(f+k)))
	}
	rest := over(times(fourth, new(big.Rat).Abs(product)), integer(24))
	return plus(times(noise, total), rest)
}

// meeting returns the time between two consecutive samples at which the straight line has a value.
func meeting(samples []float32, i int, value *big.Rat) *big.Rat {
	left, right := exact(samples[i]), exact(samples[i+1])
	return plus(integer(i), over(minus(value, left), minus(right, left)))
}

// referenceCrossings returns the crossings by the definition, or ErrLarge.
func referenceCrossings(samples []float32, level *big.Rat) ([]wave.Crossing, api.Errno) {
	var l []wave.Crossing
	for i := 0; i+1 < len(samples); i++ {
		isHigh, wasHigh := exact(samples[i+1]).Cmp(level) >= 0, exact(samples[i]).Cmp(level) >= 0
		if isHigh != wasHigh {
			at, e := rat(meeting(samples, i, level))
			if e != api.OK {
				return nil, e
			}
			l = append(l, wave.Crossing{At: at, Up: isHigh})
		}
	}
	return l, api.OK
}

// moments returns the times from i to j at which the first or the last time of a passage may lie:
// those of samples, and those at which the linear interpolation has one of some values.
func moments(samples []float32, i, j int, values ...*big.Rat) []*big.Rat {
	l := []*big.Rat{integer(j)}
	for k := i; k < j; k++ {
		l = append(l, integer(k))
		for _, value := range values {
			if samples[k] == samples[k+1] {
				continue
			}
			t := meeting(samples, k, value)
			if t.Cmp(integer(k)) >= 0 && t.Cmp(integer(k+1)) <= 0 {
				l = append(l, t)
			}
		}
	}
	slices.SortFunc(l, (*big.Rat).Cmp)
	return l
}

// referencePassages returns the passages by the definition: it looks at all pairs of samples.
func referencePassages(samples []float32, level *big.Rat, s wave.Signal) ([]wave.Passage, api.Errno) {
	noise := valid(s.Noise)
	margin := plus(noise, over(valid(s.Bend), integer(8)))
	low := func(i int) bool { return plus(exact(samples[i]), noise).Cmp(level) < 0 }
	high := func(i int) bool { return minus(exact(samples[i]), noise).Cmp(level) > 0 }
	var l []wave.Passage
	for i := range samples {
		for j := i + 1; j < len(samples); j++ {
			if low(i) && high(j) || high(i) && low(j) {
				p, e := referencePassage(samples, i, j, minus(level, margin), plus(level, margin), high(j))
				if e != api.OK {
					return nil, e
				}
				l = append(l, p)
			}
			if low(j) || high(j) {
				break
			}
		}
	}
	return l, api.OK
}

// referencePassage returns the passage from the sample i to the sample j, where the linear interpolation leaves one level and reaches another.
func referencePassage(samples []float32, i, j int, below, above *big.Rat, isUp bool) (wave.Passage, api.Errno) {
	atLeastBelow := func(t *big.Rat) bool { return line(samples, t).Cmp(below) >= 0 }
	atMostAbove := func(t *big.Rat) bool { return line(samples, t).Cmp(above) <= 0 }
	begins, ends := atLeastBelow, atMostAbove
	if !isUp {
		begins, ends = atMostAbove, atLeastBelow
	}
	l := moments(samples, i, j, below, above)
	first := l[slices.IndexFunc(l, begins)]
	slices.Reverse(l)
	last := l[slices.IndexFunc(l, ends)]
	a, errA := rat(first)
	b, errB := rat(last)
	if e := max(errA, errB); e != api.OK {
		return wave.Passage{}, e
	}
	return wave.Passage{Time: span(a, b), Up: isUp}, api.OK
}

// cuts returns two times and all integers between them.
func cuts(from, to *big.Rat) []*big.Rat {
	l := []*big.Rat{from}
	for k := whole(from) + 1; integer(k).Cmp(to) < 0; k++ {
		l = append(l, integer(k))
	}
	return append(l, to)
}

// integral returns the integral from one time to another of a function that is at most cubic between integer times (Simpson's rule).
func integral(from, to *big.Rat, value func(*big.Rat) *big.Rat) *big.Rat {
	total := integer(0)
	l := cuts(from, to)
	for i := 1; i < len(l); i++ {
		middle := times(plus(l[i-1], l[i]), big.NewRat(1, 2))
		ends := plus(value(l[i-1]), value(l[i]))
		mean := over(plus(ends, times(integer(4), value(middle))), integer(6))
		total = plus(total, times(minus(l[i], l[i-1]), mean))
	}
	return total
}

// referenceExtremes returns the least and the greatest value between two times.
func referenceExtremes(samples []float32, from, to *big.Rat) (*big.Rat, *big.Rat) {
	least, greatest := line(samples, from), line(samples, from)
	for _, t := range cuts(from, to) {
		if x := line(samples, t); x.Cmp(least) < 0 {
			least = x
		} else if x.Cmp(greatest) > 0 {
			greatest = x
		}
	}
	return least, greatest
}

// bendOf returns the greatest second difference, without its sign.
func bendOf(samples []float32) *big.Rat {
	greatest := integer(0)
	for i := 1; i+1 < len(samples); i++ {
		d := minus(plus(exact(samples[i-1]), exact(samples[i+1])), times(integer(2), exact(samples[i])))
		if d.Abs(d).Cmp(greatest) > 0 {
			greatest = d
		}
	}
	return greatest
}
