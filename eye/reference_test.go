package eye_test

import (
	"math/big"
	"slices"

	"strobe/api"
	"strobe/eye"
)

// beat is a tick by the definition, with the error and the corrected time.
type beat struct {
	number                                 *big.Rat
	expected, deviation, corrected, period *big.Rat
}

// nearestTo returns the integer nearest to a number, and the greater one of two.
func nearestTo(x *big.Rat) *big.Rat {
	below := floorOf(x)
	above := plus(below, integer(1))
	if isAbove(minus(above, x), minus(x, below)) {
		return below
	}
	return above
}

// referenceBeats returns the ticks, or the first error of a crossing.
func referenceBeats(l eye.Loop, crossings []api.Rat) ([]beat, api.Errno) {
	var beats []beat
	for i, a := range crossings {
		c := valid(a)
		if i == 0 {
			beats = append(beats, beat{integer(0), c, integer(0), c, valid(l.Period)})
			continue
		}
		last := beats[i-1]
		m := nearestTo(over(minus(c, last.corrected), last.period))
		if m.Sign() <= 0 {
			m = integer(1)
		}
		expected := plus(last.corrected, times(m, last.period))
		deviation := minus(c, expected)
		next := beat{plus(last.number, m), expected, deviation, plus(expected, times(valid(l.Phase), deviation)), plus(last.period, over(times(valid(l.Frequency), deviation), m))}
		if !isSmallNumber(next.number) {
			return nil, api.ErrLarge
		}
		if next.period.Sign() <= 0 {
			return nil, api.ErrState
		}
		beats = append(beats, next)
	}
	return beats, api.OK
}

// referenceTicks returns the result of Recover for valid arguments.
func referenceTicks(l eye.Loop, crossings []api.Rat) ([]eye.Tick, api.Errno) {
	beats, e := referenceBeats(l, crossings)
	if e != api.OK {
		return nil, e
	}
	var ticks []eye.Tick
	for _, b := range beats {
		expected, errExpected := rat(b.expected)
		period, errPeriod := rat(b.period)
		if errExpected != api.OK || errPeriod != api.OK {
			return nil, api.ErrLarge
		}
		ticks = append(ticks, eye.Tick{Number: int(b.number.Num().Int64()), Expected: expected, Period: period})
	}
	return ticks, api.OK
}

// referenceLock returns the result of Lock for valid arguments.
func referenceLock(l eye.Loop, crossings []api.Rat) (int, api.Errno) {
	beats, e := referenceBeats(l, crossings)
	if e != api.OK {
		return 0, e
	}
	if len(beats) == 0 {
		return 0, api.ErrEmpty
	}
	isOff := func(b beat) bool { return isAbove(magnitude(b.deviation), valid(l.Tolerance)) }
	for i := range beats {
		if !slices.ContainsFunc(beats[i:], isOff) {
			return i, api.OK
		}
	}
	return 0, api.ErrLock
}

// referenceBathtub returns the result of Bathtub for valid arguments.
func referenceBathtub(l eye.Loop, crossings []api.Rat, columns int) ([]int, api.Errno) {
	beats, e := referenceBeats(l, crossings)
	if e != api.OK {
		return nil, e
	}
	counts := make([]int, columns)
	for i := range counts {
		part := fraction(int64(i), int64(columns))
		late, early := times(part, valid(l.Period)), negative(times(minus(integer(1), part), valid(l.Period)))
		for _, b := range beats {
			if isAbove(b.deviation, late) {
				counts[i]++
			}
			if isAbove(early, b.deviation) {
				counts[i]++
			}
		}
	}
	return counts, api.OK
}

// folded returns the bit number and the phase of a time.
func folded(c eye.Clock, t *big.Rat) (*big.Rat, *big.Rat) {
	x := over(minus(t, valid(c.Start)), valid(c.Period))
	return floorOf(x), minus(x, floorOf(x))
}

// referenceFold returns the result of Fold for valid arguments.
func referenceFold(c eye.Clock, t *big.Rat) (int, api.Rat, api.Errno) {
	n, phase := folded(c, t)
	a, e := rat(phase)
	if !isSmallNumber(n) || e != api.OK {
		return 0, "", api.ErrLarge
	}
	return int(n.Num().Int64()), a, api.OK
}

// referenceBits returns the result of Bits for valid arguments and a clock that has few bits within the samples: it looks at
// all bits from before the samples until after them.
func referenceBits(c eye.Clock, samples []float32, level *big.Rat) ([]eye.Bit, api.Errno) {
	start, period := valid(c.Start), valid(c.Period)
	n, _ := folded(c, integer(-2))
	n = minus(n, integer(2))
	var bits []eye.Bit
	isLarge := false
	for ; ; n = plus(n, integer(1)) {
		index := nearestTo(plus(start, times(plus(n, fraction(1, 2)), period)))
		if isAtLeast(index, integer(len(samples))) {
			break
		}
		if index.Sign() >= 0 {
			j := int(index.Num().Int64())
			isLarge = isLarge || !isSmallNumber(n)
			bits = append(bits, eye.Bit{Number: int(n.Num().Int64()), Sample: j, High: isAtLeast(exact(samples[j]), level)})
		}
	}
	switch {
	case len(bits) > api.MaxSamples:
		return nil, api.ErrMany
	case isLarge:
		return nil, api.ErrLarge
	}
	return bits, api.OK
}

// isFrom reports whether a number is from a limit (included) to another one (not included).
func isFrom(x, from, to *big.Rat) bool { return isAtLeast(x, from) && isAbove(to, x) }

// referenceCount returns the result of Count for valid arguments: it looks at all samples for each cell.
func referenceCount(c eye.Clock, g eye.Grid, samples []float32) eye.Eye {
	low, high := valid(g.Low), valid(g.High)
	x := eye.Eye{}
	for row := range g.Rows {
		x.Cells = append(x.Cells, make([]int, g.Columns))
		bottom := plus(low, times(fraction(int64(row), int64(g.Rows)), minus(high, low)))
		top := plus(low, times(fraction(int64(row+1), int64(g.Rows)), minus(high, low)))
		for j, f := range samples {
			_, phase := folded(c, integer(j))
			for column := range g.Columns {
				left, right := fraction(int64(column), int64(g.Columns)), fraction(int64(column+1), int64(g.Columns))
				if isFrom(exact(f), bottom, top) && isFrom(phase, left, right) {
					x.Cells[row][column]++
				}
			}
		}
	}
	for _, f := range samples {
		if !isFrom(exact(f), low, high) {
			x.Outside++
		}
	}
	return x
}

// spot is the value of a point.
type spot struct{ x, y *big.Rat }

// spotOf returns the value of a valid point.
func spotOf(p api.Point) spot { return spot{valid(p.X), valid(p.Y)} }

// turn returns twice the area of a triangle, which is negative if its corners are clockwise.
func turn(a, b, c spot) *big.Rat {
	return minus(times(minus(b.x, a.x), minus(c.y, a.y)), times(minus(b.y, a.y), minus(c.x, a.x)))
}

// isMask reports whether valid points are a mask, by the definition.
func isMask(m []api.Point) bool {
	for i := range m {
		for k := range m {
			next := (i + 1) % len(m)
			if k != i && k != next && turn(spotOf(m[i]), spotOf(m[next]), spotOf(m[k])).Sign() <= 0 {
				return false
			}
		}
	}
	return true
}

// isWithin reports whether a point is within a mask: in one of the triangles with the first corner, into which the others divide it.
func isWithin(m []api.Point, p spot) bool {
	first := spotOf(m[0])
	for i := 1; i+1 < len(m); i++ {
		a, b := spotOf(m[i]), spotOf(m[i+1])
		if turn(first, a, p).Sign() >= 0 && turn(a, b, p).Sign() >= 0 && turn(b, first, p).Sign() >= 0 {
			return true
		}
	}
	return false
}

// referenceHits returns the result of Hits for valid arguments.
func referenceHits(c eye.Clock, samples []float32, masks [][]api.Point) ([]eye.Hit, api.Errno) {
	var hits []eye.Hit
	for i, m := range masks {
		for j, f := range samples {
			n, phase := folded(c, integer(j))
			if !isWithin(m, spot{phase, exact(f)}) {
				continue
			}
			if !isSmallNumber(n) {
				return nil, api.ErrLarge
			}
			hits = append(hits, eye.Hit{Mask: i, Sample: j, Bit: int(n.Num().Int64())})
		}
	}
	return hits, api.OK
}

// referenceFailing returns the result of Failing for valid arguments.
func referenceFailing(c eye.Clock, samples []float32, masks [][]api.Point) ([]int, api.Errno) {
	hits, e := referenceHits(c, samples, masks)
	var failing []int
	for _, hit := range hits {
		failing = append(failing, hit.Bit)
	}
	slices.Sort(failing)
	return slices.Compact(failing), e
}

// scaleOf returns the scale of a point: how far it is from the centre, in parts of the way to the border in its direction.
func scaleOf(m []api.Point, p spot) *big.Rat {
	centre := spot{integer(0), integer(0)}
	for _, corner := range m {
		centre.x, centre.y = plus(centre.x, valid(corner.X)), plus(centre.y, valid(corner.Y))
	}
	centre.x, centre.y = over(centre.x, integer(len(m))), over(centre.y, integer(len(m)))
	x, y := minus(p.x, centre.x), minus(p.y, centre.y)
	for i := range m {
		a, b := spotOf(m[i]), spotOf(m[(i+1)%len(m)])
		// centre + (x, y) / s = a + u (b - a): two linear equations for 1 / s and u.
		wayX, wayY := minus(b.x, a.x), minus(b.y, a.y)
		toX, toY := minus(a.x, centre.x), minus(a.y, centre.y)
		determinant := minus(times(wayX, y), times(x, wayY))
		if determinant.Sign() == 0 {
			continue
		}
		inverse := over(minus(times(wayX, toY), times(toX, wayY)), determinant)
		u := over(minus(times(x, toY), times(y, toX)), determinant)
		if inverse.Sign() > 0 && u.Sign() >= 0 && !isAbove(u, integer(1)) {
			return over(integer(1), inverse)
		}
	}
	return integer(0)
}

// referenceMargin returns the result of Margin for valid arguments.
func referenceMargin(c eye.Clock, samples []float32, m []api.Point) (api.Rat, api.Errno) {
	var scales []*big.Rat
	for j, f := range samples {
		_, phase := folded(c, integer(j))
		scales = append(scales, scaleOf(m, spot{phase, exact(f)}))
	}
	if len(scales) == 0 {
		return "", api.ErrEmpty
	}
	return rat(slices.MinFunc(scales, (*big.Rat).Cmp))
}

// referenceOpening returns the result of Opening for valid arguments.
func referenceOpening(c eye.Clock, samples []float32, level, from, to *big.Rat) (api.Rat, api.Errno) {
	var above, below []*big.Rat
	for j, f := range samples {
		_, phase := folded(c, integer(j))
		switch x := exact(f); {
		case isAbove(from, phase) || isAbove(phase, to):
		case isAtLeast(x, level):
			above = append(above, x)
		default:
			below = append(below, x)
		}
	}
	if len(above) == 0 || len(below) == 0 {
		return "", api.ErrNone
	}
	return rat(minus(slices.MinFunc(above, (*big.Rat).Cmp), slices.MaxFunc(below, (*big.Rat).Cmp)))
}
