package eye

import (
	"maps"
	"slices"

	"strobe/api"
	"strobe/common"
	"strobe/rational"
)

// point is the value of an api.Point: its coordinates, multiplied by a scale above 0 that makes integers of both, and the scale.
// Sums and products of integers need no lowest terms, which take long for large numbers.
type point struct {
	x, y, scale rational.Number
}

// pointOf returns the point with some coordinates.
func pointOf(x, y rational.Number) point {
	scale := x.Denominator().Times(y.Denominator())
	return point{x.Times(scale), y.Times(scale), scale}
}

// readPoint returns the value of a point, or its error.
func readPoint(p api.Point) (point, api.Errno) {
	x, errX := rational.Read(p.X)
	y, errY := rational.Read(p.Y)
	return pointOf(x, y), common.FirstError(errX, errY)
}

// plus returns the point whose coordinates are the sums of those of two points.
func (p point) plus(q point) point {
	return point{p.x.Times(q.scale).Plus(q.x.Times(p.scale)), p.y.Times(q.scale).Plus(q.y.Times(p.scale)), p.scale.Times(q.scale)}
}

// over returns the point whose coordinates are divided by an integer above 0.
func (p point) over(n int) point {
	return point{p.x, p.y, p.scale.Times(rational.Of(n))}
}

// edge is the line from a corner of a mask to the next one, as the factors of x, of y and of the scale of a point.
type edge struct {
	x, y, scale rational.Number
}

// edgeOf returns the line from one corner to another one.
func edgeOf(a, b point) edge {
	return edge{
		x:     a.y.Times(b.scale).Minus(b.y.Times(a.scale)),
		y:     b.x.Times(a.scale).Minus(a.x.Times(b.scale)),
		scale: a.x.Times(b.y).Minus(b.x.Times(a.y)),
	}
}

// side returns a number that is above 0 for points on the left, 0 on the line, and below 0 on the right:
// a multiple of the distance from the line and of the scale of the point.
func (e edge) side(p point) rational.Number {
	return e.x.Times(p.x).Plus(e.y.Times(p.y)).Plus(e.scale.Times(p.scale))
}

// isBeside reports whether a point lies strictly on the left.
func (e edge) isBeside(p point) bool { return e.side(p).Sign() > 0 }

// permits reports whether a point lies on the left, or on the line.
func (e edge) permits(p point) bool { return e.side(p).Sign() >= 0 }

// mask is the corners of a mask, and the edges from each of them to the next one.
type mask struct {
	corners []point
	edges   []edge
}

// maskOf returns the mask with some corners.
func maskOf(corners []point) mask {
	m := mask{corners: corners}
	for i, corner := range corners {
		m.edges = append(m.edges, edgeOf(corner, corners[(i+1)%len(corners)]))
	}
	return m
}

// readMask returns the value of a mask, or its error.
func readMask(points []api.Point) (mask, api.Errno) {
	if e := common.FirstError(common.ErrorIf(len(points) < 3, api.ErrShape), common.AtMost(points, MaxCorners)); e != api.OK {
		return mask{}, e
	}
	corners, e := common.Converted(points, readPoint)
	if e != api.OK {
		return mask{}, e
	}
	m := maskOf(corners)
	return m, common.ErrorIf(!m.isConvex(points), api.ErrRule)
}

// isConvex reports whether the corners, which are written as points, are all different and lie strictly on the left of each edge
// of which they are no end.
func (m mask) isConvex(points []api.Point) bool {
	for i, p := range points {
		if slices.Contains(points[:i], p) {
			return false
		}
		for k, e := range m.edges {
			// Equal numbers are equal texts.
			isEnd := p == points[k] || p == points[(k+1)%len(points)]
			if !isEnd && !e.isBeside(m.corners[i]) {
				return false
			}
		}
	}
	return true
}

// readMasks returns the values of masks, or their error.
func readMasks(masks [][]api.Point) ([]mask, api.Errno) {
	if e := common.AtMost(masks, MaxMasks); e != api.OK {
		return nil, e
	}
	return common.Converted(masks, readMask)
}

// passes reports whether a point passes a test of each edge.
func (m mask) passes(p point, test func(edge, point) bool) bool {
	for _, e := range m.edges {
		if !test(e, p) {
			return false
		}
	}
	return true
}

// contains reports whether a point is within the mask.
func (m mask) contains(p point) bool {
	return m.passes(p, edge.permits)
}

// CheckMask returns the first error of a mask, or OK.
func CheckMask(m []api.Point) api.Errno {
	_, e := readMask(m)
	return e
}

// Inside reports whether a point lies within a mask.
func Inside(m []api.Point, p api.Point) (bool, api.Errno) {
	area, errMask := readMask(m)
	at, errPoint := readPoint(p)
	if e := common.FirstError(errMask, errPoint); e != api.OK {
		return false, e
	}
	return area.contains(at), api.OK
}

// Hits returns the samples that lie within masks.
func Hits(c Clock, samples []float32, masks [][]api.Point) ([]Hit, api.Errno) {
	from, errClock := readSampled(c, samples)
	areas, errMasks := readMasks(masks)
	if e := common.FirstError(errClock, errMasks); e != api.OK {
		return nil, e
	}
	places := slices.Collect(from.places(samples))
	points := common.Transformed(places, place.point)
	var hits []Hit
	for i, area := range areas {
		for j, p := range places {
			if !area.contains(points[j]) {
				continue
			}
			bit, e := bitNumber(p.bit)
			if e != api.OK {
				return nil, e
			}
			hits = append(hits, Hit{Mask: i, Sample: j, Bit: bit})
		}
	}
	return hits, api.OK
}

// Failing returns the numbers of the bits that have hits.
func Failing(c Clock, samples []float32, masks [][]api.Point) ([]int, api.Errno) {
	hits, e := Hits(c, samples, masks)
	if e != api.OK {
		return nil, e
	}
	failing := map[int]bool{}
	for _, hit := range hits {
		failing[hit.Bit] = true
	}
	return slices.Sorted(maps.Keys(failing)), api.OK
}
