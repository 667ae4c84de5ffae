package eye_test

import (
	"math/big"
	"math/rand"
	"slices"
	"testing"

	"strobe/api"
	"strobe/eye"
)

// P8.4: the example 5 of the chapter.
func TestMaskExample(t *testing.T) {
	inside, e := eye.Inside(exampleMask(), at("1/2", "0"))
	same(t, "Inside", inside, e, true, api.OK)
	hits, e := eye.Hits(exampleClock(), []float32{5, 5, 0, 5}, oneMask())
	sameList(t, "Hits", hits, e, []eye.Hit{{0, 2, 0}}, api.OK)
	failing, e := eye.Failing(exampleClock(), []float32{5, 5, 0, 5}, oneMask())
	sameList(t, "Failing", failing, e, []int{0}, api.OK)
}

// parabola returns a mask of n corners on a parabola.
func parabola(n int) []api.Point {
	var m []api.Point
	for i := range n {
		x := i - n/2
		m = append(m, point(integer(x), integer(x*x)))
	}
	return m
}

// P8.4: polygons with and without an error.
func TestCheckMask(t *testing.T) {
	for _, b := range badMasks() {
		isError(t, "CheckMask", eye.CheckMask(b.argument), b.e)
	}
	valids := [][]api.Point{exampleMask(), unitMask(), {at("-5", "-1/2"), at("7", "0"), at("1", "1/"+nines(600))}, {at("0", "0"), at("1", "0"), at("1", "1"), at("1/2", "50001/100000")}}
	for n := 3; n <= 16; n++ {
		valids = append(valids, parabola(n))
	}
	for _, m := range valids {
		for range m {
			// Each corner may be the first one.
			m = append(m[1:len(m):len(m)], m[0])
			isError(t, "CheckMask", eye.CheckMask(m), api.OK)
		}
		slices.Reverse(m)
		isError(t, "CheckMask", eye.CheckMask(m), api.ErrRule)
	}
}

// P8.4: random lists of few small points.
func TestCheckMasks(t *testing.T) {
	r := source(30)
	found := map[api.Errno]int{}
	for range 3000 {
		var m []api.Point
		for range 3 + r.Intn(3) {
			m = append(m, point(fraction(r.Int63n(5), 2), integer(r.Intn(5))))
		}
		wanted := api.ErrRule
		if isMask(m) {
			wanted = api.OK
		}
		isError(t, "CheckMask", eye.CheckMask(m), wanted)
		found[wanted]++
	}
	decided(t, "CheckMask", found, api.OK, api.ErrRule)
}

// P8.4: points within, on the border, at corners, and outside.
func TestInside(t *testing.T) {
	tiny := "1/" + nines(600)
	for _, row := range []struct {
		m      []api.Point
		p      api.Point
		wanted bool
	}{
		{unitMask(), at("1/2", "1/2"), true}, {unitMask(), at("0", "0"), true}, {unitMask(), at("1", "1"), true}, {unitMask(), at("1", "0"), true}, {unitMask(), at("0", "1"), true},
		{unitMask(), at("0", "1/2"), true}, {unitMask(), at("1/2", "1"), true}, {unitMask(), at("-"+tiny, "1/2"), false}, {unitMask(), at(tiny, "1/2"), true}, {unitMask(), at("1/2", "-"+tiny), false},
		{unitMask(), at("1000001/1000000", "1/2"), false}, {unitMask(), at("1/2", "1000001/1000000"), false}, {unitMask(), at("2", "0"), false}, {unitMask(), at("0", "-1"), false}, {unitMask(), at("1", "2"), false}, {unitMask(), at(nines(600), nines(600)), false},
		{exampleMask(), at("1/2", "1"), true}, {exampleMask(), at("3/8", "1/2"), true}, {exampleMask(), at("5/8", "1/2"), true}, {exampleMask(), at("37/100", "1/2"), false}, {exampleMask(), at("63/100", "1/2"), false}, {exampleMask(), at("1/2", "1/3"), true}, {exampleMask(), at("1", "0"), false}, {exampleMask(), at("0", "0"), false},
	} {
		inside, e := eye.Inside(row.m, row.p)
		same(t, "Inside", inside, e, row.wanted, api.OK)
	}
}

// P8.4: the errors of masks and points, in their order.
func TestInsideErrors(t *testing.T) {
	for _, b := range badMasks() {
		for _, p := range []api.Point{at("0", "0"), at("x", nines(601)), {}} {
			inside, e := eye.Inside(b.argument, p)
			same(t, "Inside", inside, e, false, b.e)
		}
	}
	for _, b := range badNumbers() {
		inside, e := eye.Inside(unitMask(), at(b.argument, "0"))
		same(t, "Inside", inside, e, false, b.e)
		inside, e = eye.Inside(unitMask(), at("0", b.argument))
		same(t, "Inside", inside, e, false, b.e)
	}
	inside, e := eye.Inside(unitMask(), at("x", nines(601)))
	same(t, "Inside", inside, e, false, api.ErrForm)
	inside, e = eye.Inside(unitMask(), at(nines(601), "x"))
	same(t, "Inside", inside, e, false, api.ErrLarge)
}

// anyMask returns a mask: the convex hull of random points, turned to any first corner.
func anyMask(r *rand.Rand, unit *big.Rat) []api.Point {
	for {
		points := make([][2]int, 3+r.Intn(20))
		for i := range points {
			points[i] = [2]int{r.Intn(9) - 2, r.Intn(13) - 6}
		}
		hull := hullOf(points)
		if len(hull) < 3 || len(hull) > 16 {
			continue
		}
		var m []api.Point
		for _, p := range hull {
			m = append(m, point(times(integer(p[0]), unit), fraction(int64(p[1]), 2)))
		}
		n := r.Intn(len(m))
		return slices.Concat(m[n:], m[:n])
	}
}

// hullOf returns the corners of the convex hull.
func hullOf(points [][2]int) [][2]int {
	first := slices.MinFunc(points, func(p, q [2]int) int { return slices.Compare(p[:], q[:]) })
	hull := [][2]int{first}
	for last := nextCorner(points, first); last != first; last = nextCorner(points, last) {
		hull = append(hull, last)
	}
	return hull
}

// nextCorner returns the point such that no other is on the right of the way to it: of several ones the farthest.
func nextCorner(points [][2]int, from [2]int) [2]int {
	next := from
	for _, p := range points {
		x, y := next[0]-from[0], next[1]-from[1]
		toX, toY := p[0]-from[0], p[1]-from[1]
		turn := x*toY - y*toX
		if next == from || turn < 0 || turn == 0 && toX*toX+toY*toY > x*x+y*y {
			next = p
		}
	}
	return next
}

// anyMasks returns up to three masks.
func anyMasks(r *rand.Rand) [][]api.Point {
	var masks [][]api.Point
	for range r.Intn(4) {
		masks = append(masks, anyMask(r, fraction(1, 5+r.Int63n(4))))
	}
	return masks
}

// P8.4: random masks and points, many of them on the border.
func TestManyInside(t *testing.T) {
	r := source(31)
	found := map[bool]int{}
	for range 300 {
		m := anyMask(r, fraction(1, 2))
		isError(t, "CheckMask", eye.CheckMask(m), api.OK)
		for range 10 {
			p := spot{fraction(r.Int63n(30)-10, 4), fraction(r.Int63n(30)-15, 4)}
			inside, e := eye.Inside(m, point(p.x, p.y))
			same(t, "Inside", inside, e, isWithin(m, p), api.OK)
			found[inside]++
		}
		i := r.Intn(len(m))
		a, b, part := spotOf(m[i]), spotOf(m[(i+1)%len(m)]), fraction(r.Int63n(5), 4)
		inside, e := eye.Inside(m, point(plus(a.x, times(part, minus(b.x, a.x))), plus(a.y, times(part, minus(b.y, a.y)))))
		same(t, "Inside", inside, e, true, api.OK)
	}
	if found[true] < 100 || found[false] < 100 {
		t.Errorf("the points decide too little: %v", found)
	}
}

// P8.4: numbers with the most digits.
func TestInsideSizes(t *testing.T) {
	r := source(32)
	found := map[bool]int{}
	for range 200 {
		part := func() *big.Rat { return largeNumber(r, []int{100, 200, 298, 600}[r.Intn(4)]) }
		m := []api.Point{point(negative(part()), negative(part())), point(part(), part()), point(part(), part())}
		if !isMask(m) {
			m[1], m[2] = m[2], m[1]
		}
		a, b := spotOf(m[1]), spotOf(m[2])
		for _, p := range []spot{
			{part(), part()},
			// The middle of an edge, and a little beside it.
			{over(plus(a.x, b.x), integer(2)), over(plus(a.y, b.y), integer(2))}, {over(plus(a.x, b.x), fraction(199, 100)), over(plus(a.y, b.y), integer(2))}, {over(plus(a.x, b.x), fraction(201, 100)), over(plus(a.y, b.y), integer(2))},
		} {
			_, errX := rat(p.x)
			_, errY := rat(p.y)
			if errX != api.OK || errY != api.OK {
				continue
			}
			inside, e := eye.Inside(m, point(p.x, p.y))
			same(t, "Inside", inside, e, isWithin(m, p), api.OK)
			found[inside]++
		}
	}
	if found[true] < 50 || found[false] < 50 {
		t.Errorf("the points decide too little: %v", found)
	}
}

// P8.4: several masks, several bits, and no hits.
func TestHits(t *testing.T) {
	low := []api.Point{at("0", "-1"), at("3/4", "-1"), at("3/4", "1"), at("0", "1")}
	c := eye.Clock{Start: "1", Period: "2"}
	samples := []float32{0, 1, 0.5, 2, -1, 1, negativeZero()}
	// The bit numbers are -1, 0, 0, 1, 1, 2, 2, the phases 1/2 and 0 in turn.
	wanted := []eye.Hit{{0, 0, -1}, {0, 2, 0}, {0, 6, 2}, {1, 0, -1}, {1, 1, 0}, {1, 2, 0}, {1, 4, 1}, {1, 5, 2}, {1, 6, 2}}
	hits, e := eye.Hits(c, samples, [][]api.Point{exampleMask(), low})
	sameList(t, "Hits", hits, e, wanted, api.OK)
	failing, e := eye.Failing(c, samples, [][]api.Point{exampleMask(), low})
	sameList(t, "Failing", failing, e, []int{-1, 0, 1, 2}, api.OK)
	failing, e = eye.Failing(c, samples, oneMask())
	sameList(t, "Failing", failing, e, []int{-1, 0, 2}, api.OK)
	for _, row := range []struct {
		samples []float32
		masks   [][]api.Point
	}{{nil, nil}, {nil, oneMask()}, {samples, nil}, {[]float32{2, 3, -2, 4}, [][]api.Point{exampleMask(), low}}} {
		hits, e = eye.Hits(c, row.samples, row.masks)
		sameList(t, "Hits", hits, e, nil, api.OK)
		failing, e = eye.Failing(c, row.samples, row.masks)
		sameList(t, "Failing", failing, e, nil, api.OK)
	}
	all := slices.Repeat([][]api.Point{low}, 8)
	hits, e = eye.Hits(eye.Clock{Start: "0", Period: "1"}, make([]float32, 4096), all)
	same(t, "the number of hits", len(hits), e, 8*4096, api.OK)
	same(t, "the last hit", hits[len(hits)-1], e, eye.Hit{Mask: 7, Sample: 4095, Bit: 4095}, api.OK)
}

// P8.4: only the bit numbers of hits are limited.
func TestLimitsOfHits(t *testing.T) {
	box := [][]api.Point{{at("0", "-1"), at("1", "-1"), at("1", "1"), at("0", "1")}}
	for _, row := range []struct {
		start   api.Rat
		samples []float32
		bits    []int
		e       api.Errno
	}{
		{"999999999", []float32{0, 2}, []int{-999999999}, api.OK}, {"1000000000", []float32{2, 0}, []int{-999999999}, api.OK}, {"1000000000", []float32{0, 2}, nil, api.ErrLarge},
		{"-999999999", []float32{0, 2}, []int{999999999}, api.OK}, {"-999999998", []float32{0, 0}, []int{999999998, 999999999}, api.OK}, {"-999999999", []float32{0, 1}, nil, api.ErrLarge}, {"-999999999", []float32{2, 1}, nil, api.ErrLarge},
		{nines(600), []float32{2, 2}, nil, api.OK}, {nines(600), []float32{2, 1}, nil, api.ErrLarge},
	} {
		c := eye.Clock{Start: row.start, Period: "1"}
		wanted, _ := referenceHits(c, row.samples, box)
		hits, e := eye.Hits(c, row.samples, box)
		sameList(t, "Hits", hits, e, wanted, row.e)
		failing, e := eye.Failing(c, row.samples, box)
		sameList(t, "Failing", failing, e, row.bits, row.e)
	}
}

// P8.4: the errors of clocks, samples and masks, in their order.
func TestHitErrors(t *testing.T) {
	check := func(c eye.Clock, samples []float32, masks [][]api.Point, wanted api.Errno) {
		t.Helper()
		hits, e := eye.Hits(c, samples, masks)
		sameList(t, "Hits", hits, e, nil, wanted)
		failing, e := eye.Failing(c, samples, masks)
		sameList(t, "Failing", failing, e, nil, wanted)
	}
	// The bit number of this clock is too large.
	far := eye.Clock{Start: nines(600), Period: "1"}
	for _, b := range badClocks() {
		check(b.argument, notFinite(), make([][]api.Point, 9), b.e)
		check(b.argument, nil, nil, b.e)
	}
	for _, b := range badSamples() {
		check(far, b.argument, make([][]api.Point, 9), b.e)
		check(far, b.argument, [][]api.Point{unitMask()}, b.e)
	}
	for _, b := range badMaskLists() {
		check(exampleClock(), nil, b.argument, b.e)
		check(far, []float32{0, 0, 0}, b.argument, b.e)
	}
}

// P8.4: random clocks, samples and masks.
func TestManyHits(t *testing.T) {
	r := source(33)
	found := 0
	for range 400 {
		c, samples, masks := anyClock(r), anySamples(r, r.Intn(20)), anyMasks(r)
		wanted, wantedError := referenceHits(c, samples, masks)
		hits, e := eye.Hits(c, samples, masks)
		sameList(t, "Hits", hits, e, wanted, wantedError)
		failing, e := eye.Failing(c, samples, masks)
		wantedBits, wantedError := referenceFailing(c, samples, masks)
		sameList(t, "Failing", failing, e, wantedBits, wantedError)
		found += len(hits) - len(failing)
	}
	if found < 500 {
		t.Errorf("only %d hits of bits with others", found)
	}
}

// P8.4: arguments do not change, and results share no memory.
func TestMasksChangeNothing(t *testing.T) {
	unchanged(t, exampleMask(), func(m []api.Point) {
		eye.CheckMask(m)
		eye.Inside(m, m[0])
		unchanged(t, []float32{0, 0, 0, 0, 0, 0}, func(samples []float32) {
			first, _ := eye.Hits(exampleClock(), samples, [][]api.Point{m, m})
			second, e := eye.Hits(exampleClock(), samples, [][]api.Point{m, m})
			wanted := slices.Clone(second)
			clear(first)
			sameList(t, "Hits", second, e, wanted, api.OK)
			bits, _ := eye.Failing(exampleClock(), samples, [][]api.Point{m})
			again, e := eye.Failing(exampleClock(), samples, [][]api.Point{m})
			clear(bits)
			sameList(t, "Failing", again, e, []int{0, 1}, api.OK)
		})
	})
}
