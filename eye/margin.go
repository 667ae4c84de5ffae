package eye

import (
	"slices"

	"strobe/api"
	"strobe/common"
	"strobe/rational"
)

// ratio is a number that need not be in lowest terms; the bottom is above 0.
type ratio struct {
	top, bottom rational.Number
}

// isBelow reports whether a is less than b.
func (a ratio) isBelow(b ratio) bool {
	return a.top.Times(b.bottom).Compare(b.top.Times(a.bottom)) < 0
}

// centre returns the mean of the corners.
func (m mask) centre() point {
	return common.Folded(point.plus, m.corners).over(len(m.corners))
}

// margin returns the least scale of some points, at least one.
func (m mask) margin(points []point) ratio {
	centre := m.centre()
	heights := common.Transformed(m.edges, func(e edge) rational.Number { return e.side(centre) })
	var margin ratio
samples:
	for n, p := range points {
		scale := ratio{rational.Of(0), rational.Of(1)}
		for i, e := range m.edges {
			// Scaled by s, the edge lies at 1 - s times the height of the centre, and the point must not be below it.
			height, whole := e.side(p).Times(centre.scale), heights[i].Times(p.scale)
			needed := ratio{whole.Minus(height), whole}
			if n > 0 && !needed.isBelow(margin) {
				continue samples
			}
			if scale.isBelow(needed) {
				scale = needed
			}
		}
		margin = scale
	}
	return margin
}

// Margin returns the least factor by which a mask is scaled until a sample hits it.
func Margin(c Clock, samples []float32, m []api.Point) (api.Rat, api.Errno) {
	from, errClock := readSampled(c, samples)
	area, errMask := readMask(m)
	if e := common.FirstError(errClock, errMask, common.ErrorIf(len(samples) == 0, api.ErrEmpty)); e != api.OK {
		return "", e
	}
	points := common.Transformed(slices.Collect(from.places(samples)), place.point)
	margin := area.margin(points)
	return margin.top.Over(margin.bottom).Write()
}

// readPhases returns the phases from one to another one, or their error.
func readPhases(from, to api.Rat) (rational.Interval, api.Errno) {
	first, errFrom := rational.Read(from)
	last, errTo := rational.Read(to)
	isPossible := first.Sign() >= 0 && last.Compare(rational.Of(1)) < 0 && first.Compare(last) <= 0
	return rational.Interval{Low: first, High: last}, common.FirstError(errFrom, errTo, common.ErrorIf(!isPossible, api.ErrRange))
}

// Opening returns the vertical opening of an eye.
func Opening(c Clock, samples []float32, level, from, to api.Rat) (api.Rat, api.Errno) {
	x, errClock := readSampled(c, samples)
	least, errLevel := rational.Read(level)
	phases, errPhases := readPhases(from, to)
	if e := common.FirstError(errClock, errLevel, errPhases); e != api.OK {
		return "", e
	}
	var above, below []float32
	for p := range x.places(samples) {
		switch {
		case !phases.Contains(rational.Enclosing(p.phase)):
		case p.value.Compare(least) >= 0:
			above = append(above, samples[p.sample])
		default:
			below = append(below, samples[p.sample])
		}
	}
	if len(above) == 0 || len(below) == 0 {
		return "", api.ErrNone
	}
	return rational.Exact(slices.Min(above)).Minus(rational.Exact(slices.Max(below))).Write()
}
