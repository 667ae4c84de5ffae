package eye_test

import (
	"math"
	"math/big"
	"slices"
	"testing"

	"strobe/api"
	"strobe/eye"
)

// deviations returns the errors of crossings: how much later they are than their expected times.
func deviations(t *testing.T, l eye.Loop, crossings []api.Rat) []*big.Rat {
	t.Helper()
	ticks, e := eye.Recover(l, crossings)
	if e != api.OK {
		t.Fatalf("Recover: got the error %d", e)
	}
	var errors []*big.Rat
	for i, tick := range ticks {
		errors = append(errors, minus(valid(crossings[i]), valid(tick.Expected)))
	}
	return errors
}

// P8.6: for crossings at multiples of the nominal period all errors are 0.
func TestExactClock(t *testing.T) {
	r := source(50)
	for range 200 {
		l := anyLoop(r)
		l.Tolerance = "0"
		period, start := valid(l.Period), integer(r.Intn(50)-25)
		var crossings []api.Rat
		var numbers []int
		number := 0
		for range 1 + r.Intn(60) {
			numbers = append(numbers, number)
			crossings = append(crossings, text(times(plus(start, integer(number)), period)))
			number += 1 + r.Intn(5)
		}
		ticks, e := eye.Recover(l, crossings)
		if e != api.OK || len(ticks) != len(crossings) {
			t.Fatalf("Recover: got %v, %d", ticks, e)
		}
		for i, tick := range ticks {
			same(t, "Recover", tick, api.OK, eye.Tick{Number: numbers[i], Expected: crossings[i], Period: l.Period}, api.OK)
		}
		n, e := eye.Lock(l, crossings)
		same(t, "Lock", n, e, 0, api.OK)
		counts, e := eye.Bathtub(l, crossings, 16)
		sameList(t, "Bathtub", counts, e, make([]int, 16), api.OK)
	}
}

// P8.6: without a frequency gain the error of one deviating first crossing becomes less by the phase gain with each crossing.
func TestDecay(t *testing.T) {
	r := source(51)
	for range 200 {
		l := anyLoop(r)
		l.Frequency = "0"
		period := valid(l.Period)
		// The first crossing is off by less than half of a period.
		crossings := numbers(text(times(fraction(r.Int63n(99)-49, 100), period)))
		for i := range 1 + r.Intn(30) {
			crossings = append(crossings, text(times(integer(i+1), period)))
		}
		errors := deviations(t, l, crossings)
		wanted := negative(valid(crossings[0]))
		for i, x := range errors[1:] {
			if x.Cmp(wanted) != 0 {
				t.Errorf("%v, %v: the error %d is %s, want %s", l, crossings, i+1, x.RatString(), wanted.RatString())
			}
			wanted = times(wanted, minus(integer(1), valid(l.Phase)))
		}
	}
}

// P8.6: the time of a fold is the start plus the sum of bit number and phase times the period.
func TestUnfolded(t *testing.T) {
	r := source(52)
	for range 500 {
		c, at := anyClock(r), anyNumber(r)
		n, phase, e := eye.Fold(c, text(at))
		back := plus(valid(c.Start), times(plus(integer(n), valid(phase)), valid(c.Period)))
		if e != api.OK || back.Cmp(at) != 0 || valid(phase).Sign() < 0 || valid(phase).Cmp(integer(1)) >= 0 {
			t.Errorf("Fold %v, %s: got %d, %s, %d", c, at.RatString(), n, phase, e)
		}
	}
}

// counted returns the number of samples in a diagram.
func counted(x eye.Eye) int {
	sum := x.Outside
	for _, row := range x.Cells {
		for _, n := range row {
			sum += n
		}
	}
	return sum
}

// P8.6: the counts add up to the number of samples, and merged diagrams are the diagram of both records.
func TestSumsOfDiagrams(t *testing.T) {
	r := source(53)
	for range 100 {
		c, g := anyClock(r), anyGrid(r, 64)
		first, second := anySamples(r, r.Intn(200)), anySamples(r, r.Intn(200))
		// The second record begins where the first one ends.
		later := clock(minus(valid(c.Start), integer(len(first))), valid(c.Period))
		x, e := eye.Count(c, g, first)
		same(t, "the number of samples", counted(x), e, len(first), api.OK)
		y, e := eye.Count(later, g, second)
		same(t, "the number of samples", counted(y), e, len(second), api.OK)
		both, wantedError := eye.Count(c, g, slices.Concat(first, second))
		merged, e := eye.Merge(x, y)
		sameEye(t, "Merge", merged, e, both, wantedError)
		again, e := eye.Merge(y, x)
		sameEye(t, "Merge", again, e, both, wantedError)
	}
	x, e := eye.Count(exampleClock(), exampleGrid(), make([]float32, 4096))
	same(t, "the number of samples", counted(x), e, 4096, api.OK)
}

// P8.6: a sample has a hit exactly if its scale is at most 1, and a bit fails exactly if one of its samples has a hit.
func TestHitsAndMargins(t *testing.T) {
	r := source(54)
	found := map[bool]int{}
	for range 300 {
		c, samples, m := anyClock(r), anySamples(r, 1+r.Intn(12)), anyMask(r, fraction(1, 6))
		hits, e := eye.Hits(c, samples, [][]api.Point{m})
		isError(t, "Hits", e, api.OK)
		margin, e := eye.Margin(c, samples, m)
		if e != api.OK || (len(hits) == 0) != (valid(margin).Cmp(integer(1)) > 0) {
			t.Errorf("%d hits, and the margin %s, %d", len(hits), margin, e)
		}
		failing := map[int]bool{}
		for j, f := range samples {
			n, phase, _ := eye.Fold(c, text(integer(j)))
			// A clock that begins later by j has only the sample j at this phase.
			alone := clock(minus(valid(c.Start), integer(j)), valid(c.Period))
			scale, _ := eye.Margin(alone, []float32{f}, m)
			isHit := slices.Contains(hits, eye.Hit{Mask: 0, Sample: j, Bit: n})
			isScaled := valid(scale).Cmp(integer(1)) <= 0
			inside, _ := eye.Inside(m, point(valid(phase), exact(f)))
			if isHit != isScaled || isHit != inside {
				t.Errorf("the sample %d: a hit %v, within the mask %v, the scale %s", j, isHit, inside, scale)
			}
			if isHit {
				failing[n] = true
			}
			found[isHit]++
		}
		bits, e := eye.Failing(c, samples, [][]api.Point{m})
		isError(t, "Failing", e, api.OK)
		for _, n := range bits {
			if !failing[n] {
				t.Errorf("the bit %d has no hit", n)
			}
		}
		if !slices.IsSorted(bits) || len(bits) != len(failing) {
			t.Errorf("the failing bits are %v, want %v", bits, failing)
		}
	}
	if found[true] < 50 || found[false] < 50 {
		t.Errorf("the samples decide too little: %v", found)
	}
}

// P8.6: the border of a mask has the scale 1, and a mask scaled by the margin touches the nearest sample.
func TestScaledMasks(t *testing.T) {
	r := source(55)
	for range 200 {
		m := anyMask(r, fraction(1, 4))
		c, samples := anyClock(r), anySamples(r, 1+r.Intn(6))
		margin, e := eye.Margin(c, samples, m)
		if e != api.OK || margin == "0" {
			continue
		}
		touched, e := eye.Margin(c, samples, scaled(m, valid(margin)))
		same(t, "Margin", touched, e, "1", api.OK)
	}
}

// scaled returns a mask that is scaled about its centre.
func scaled(m []api.Point, by *big.Rat) []api.Point {
	x, y := integer(0), integer(0)
	for _, p := range m {
		x, y = plus(x, over(valid(p.X), integer(len(m)))), plus(y, over(valid(p.Y), integer(len(m))))
	}
	var l []api.Point
	for _, p := range m {
		l = append(l, point(plus(x, times(by, minus(valid(p.X), x))), plus(y, times(by, minus(valid(p.Y), y)))))
	}
	return l
}

// P1: no function panics, whatever its arguments are.
func TestArbitraryArguments(t *testing.T) {
	r := source(56)
	good := true
	rat := func() api.Rat {
		if good {
			return text(anyNumber(r))
		}
		return []api.Rat{"", "x", "0", "1", "-1/2", "7/3", nines(600), "1/" + nines(600), nines(601), "1/0", api.Rat([]byte{byte(r.Intn(256))})}[r.Intn(11)]
	}
	count := func() int { return append(far(), 0, 1, 2, 3, 64, 65, 999999999)[r.Intn(12)] }
	float := func() float32 {
		return append(notFinite(), negativeZero(), math.MaxFloat32, math.SmallestNonzeroFloat32, 1, float32(r.NormFloat64()))[r.Intn(9)]
	}
	samples := func() []float32 {
		l := anySamples(r, r.Intn(6))
		if !good && len(l) > 0 {
			l[0] = float()
		}
		return l
	}
	points := func() []api.Point {
		if good && r.Intn(2) == 0 {
			return anyMask(r, fraction(1, 4))
		}
		l := make([]api.Point, r.Intn(6))
		for i := range l {
			l[i] = at(rat(), rat())
		}
		return l
	}
	diagram := func() eye.Eye {
		x := eye.Eye{Cells: make([][]int, r.Intn(4)), Outside: count()}
		for i := range x.Cells {
			for range r.Intn(4) {
				x.Cells[i] = append(x.Cells[i], count())
			}
		}
		return x
	}
	for range 10000 {
		good = r.Intn(2) == 0
		l := eye.Loop{Period: rat(), Phase: rat(), Frequency: rat(), Tolerance: rat()}
		if good {
			l = anyLoop(r)
		}
		var crossings []api.Rat
		for range r.Intn(5) {
			crossings = append(crossings, rat())
		}
		if good {
			slices.SortFunc(crossings, func(a, b api.Rat) int { return valid(a).Cmp(valid(b)) })
		}
		c, g := eye.Clock{Start: rat(), Period: rat()}, eye.Grid{Columns: count(), Rows: count(), Low: rat(), High: rat()}
		eye.CheckLoop(l)
		eye.Recover(l, crossings)
		eye.Lock(l, crossings)
		eye.Bathtub(l, crossings, count())
		eye.CheckClock(c)
		eye.Fold(c, rat())
		eye.Bits(c, samples(), rat())
		eye.CheckGrid(g)
		eye.Count(c, g, samples())
		eye.CheckEye(diagram())
		eye.Merge(diagram(), diagram())
		eye.CheckMask(points())
		eye.Inside(points(), at(rat(), rat()))
		masks := [][]api.Point{points(), points()}[:r.Intn(3)]
		eye.Hits(c, samples(), masks)
		eye.Failing(c, samples(), masks)
		eye.Margin(c, samples(), points())
		eye.Opening(c, samples(), rat(), rat(), rat())
	}
}
