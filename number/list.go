package number

import (
	"cmp"
	"slices"

	"strobe/api"
)

// The factor and the modulus of the sequence that Draw uses.
const (
	drawFactor  = 40692
	drawModulus = 2147483399
)

// knot is the value of a breakpoint.
type knot struct {
	x, y ratio
}

// readTable returns the values of the breakpoints of a table, or its error.
func readTable(t []api.Point) ([]knot, api.Errno) {
	var knots []knot
	e := checkList(t, 1, MaxBreaks, func(i int, p api.Point) api.Errno {
		x, errX := read(p.X)
		y, errY := read(p.Y)
		if e := first(errX, errY); e != api.OK {
			return e
		}
		if i > 0 && x.compare(knots[i-1].x) <= 0 {
			return api.ErrOrder
		}
		knots = append(knots, knot{x, y})
		return api.OK
	})
	return knots, e
}

// CheckTable returns the first error of a table, or OK.
func CheckTable(t []api.Point) api.Errno {
	_, e := readTable(t)
	return e
}

// Blend returns the value of a table, by linear interpolation.
func Blend(t []api.Point, x api.Rat) (api.Rat, api.Errno) {
	knots, errTable := readTable(t)
	at, errX := read(x)
	if e := first(errTable, errX); e != api.OK {
		return "", e
	}
	if at.compare(knots[0].x) < 0 {
		return "", api.ErrRange
	}
	for i, k := range knots {
		switch order := at.compare(k.x); {
		case order == 0:
			return k.y.write()
		case order < 0:
			return between(knots[i-1], k, at).write()
		}
	}
	return "", api.ErrRange
}

// between returns the linear interpolation between two breakpoints.
func between(left, right knot, x ratio) ratio {
	slope := right.y.minus(left.y).over(right.x.minus(left.x))
	return left.y.plus(slope.times(x.minus(left.x)))
}

// Shares divides an integer in proportion to weights.
func Shares(total int, weights []int) ([]int, api.Errno) {
	if e := first(inRange(total, 0, api.MaxNumber), checkWeights(weights)); e != api.OK {
		return nil, e
	}
	sum := int64(0)
	for _, w := range weights {
		sum += int64(w)
	}
	shares, order := make([]int, len(weights)), make([]int, len(weights))
	remainders := make([]int64, len(weights))
	rest := total
	for i, w := range weights {
		product := int64(total) * int64(w)
		shares[i], order[i], remainders[i] = int(product/sum), i, product%sum
		rest -= shares[i]
	}
	slices.SortStableFunc(order, func(i, j int) int {
		return cmp.Compare(remainders[j], remainders[i])
	})
	for _, i := range order[:rest] {
		shares[i]++
	}
	return shares, api.OK
}

// checkWeights returns the error of weights, or OK.
func checkWeights(weights []int) api.Errno {
	allZero := true
	e := checkList(weights, 1, api.MaxList, func(_ int, w int) api.Errno {
		allZero = allZero && w == 0
		return inRange(w, 0, api.MaxNumber)
	})
	if e == api.OK && allZero {
		return api.ErrZero
	}
	return e
}

// Draw returns a pseudorandom permutation of n elements.
func Draw(key, n int) ([]int, api.Errno) {
	if e := first(inRange(key, 1, drawModulus-1), inRange(n, 0, api.MaxList)); e != api.OK {
		return nil, e
	}
	list := make([]int, n)
	for i := range list {
		list[i] = i
	}
	x := int64(key)
	for i := n - 1; i >= 1; i-- {
		x = drawFactor * x % drawModulus
		j := int(x % int64(i+1))
		list[i], list[j] = list[j], list[i]
	}
	return list, api.OK
}
