package wave_test

import (
	"math"
	"math/big"
	"slices"
	"testing"

	"strobe/api"
	"strobe/wave"
)

// P5.5: the examples of the chapter.
func TestAreaExamples(t *testing.T) {
	bend, e := wave.Bend(exampleRecord())
	same(t, "Bend", bend, e, "2", api.OK)
	for s, wanted := range map[wave.Signal]bool{{Bend: "2", Noise: "0"}: true, {Bend: "1", Noise: "1/8"}: false, {Bend: "1", Noise: "1/4"}: true} {
		isPossible, e := wave.Possible(exampleRecord(), s)
		same(t, "Possible", isPossible, e, wanted, api.OK)
	}
	area, e := wave.Area(exampleRecord(), "0", "2")
	same(t, "Area", area, e, "3", api.OK)
	areas, e := wave.AreaSpan(exampleRecord(), "0", "2", wave.Signal{Bend: "2", Noise: "0"})
	same(t, "AreaSpan", areas, e, span("8/3", "10/3"), api.OK)
	extremes, e := wave.Extremes(exampleRecord(), "1/2", "3/2")
	same(t, "Extremes", extremes, e, span("1/2", "5/2"), api.OK)
}

// P5.5: the second differences of random records, upwards and downwards.
func TestBend(t *testing.T) {
	r := source(40)
	for i := range 600 {
		samples := anyRecord(r, 3+i%20)
		wanted := text(bendOf(samples))
		for range 2 {
			bend, e := wave.Bend(samples)
			same(t, "Bend", bend, e, wanted, api.OK)
			for k := range samples {
				samples[k] = -samples[k]
			}
		}
	}
	for _, samples := range [][]float32{{0, 1, 2, 3}, {7, 7, 7}, {negativeZero(), 0, negativeZero()}, {math.MaxFloat32, -math.MaxFloat32, math.MaxFloat32}, {0, math.SmallestNonzeroFloat32, 0}, {0, 5, 0, 0, 0}, {0, 0, 0, 0, 5}, anyRecord(r, 4096)} {
		bend, e := wave.Bend(samples)
		same(t, "Bend", bend, e, text(bendOf(samples)), api.OK)
	}
}

// P5.5: bounds that just are possible, or just not.
func TestPossible(t *testing.T) {
	r := source(41)
	little := valid("1/1" + zeros(560))
	for range 300 {
		samples := anyRecord(r, 3+r.Intn(9))
		bend := bendOf(samples)
		part := times(bend, big.NewRat(r.Int63n(9), 8))
		if part.Cmp(bend) > 0 {
			part = bend
		}
		noise := over(minus(bend, part), integer(4))
		for i, s := range []wave.Signal{{Bend: text(part), Noise: text(noise)}, {Bend: text(plus(part, little)), Noise: text(noise)}, {Bend: text(part), Noise: text(plus(noise, little))}, {Bend: text(minus(part, little)), Noise: text(noise)}, {Bend: text(part), Noise: text(minus(noise, little))}} {
			if wave.CheckSignal(s) != api.OK {
				continue
			}
			isPossible, e := wave.Possible(samples, s)
			same(t, "Possible", isPossible, e, i < 3, api.OK)
		}
	}
	for _, samples := range [][]float32{nil, {5}, {-1e30, 1e30}} {
		isPossible, e := wave.Possible(samples, wave.Signal{Bend: "0", Noise: "0"})
		same(t, "Possible", isPossible, e, true, api.OK)
	}
	for _, s := range []wave.Signal{{Bend: nines(600), Noise: "1/" + nines(600)}, {Bend: "0", Noise: nines(600)}} {
		isPossible, e := wave.Possible(exampleRecord(), s)
		same(t, "Possible", isPossible, e, true, api.OK)
	}
	isPossible, e := wave.Possible(exampleRecord(), wave.Signal{Bend: "1/" + nines(600), Noise: "1/1" + zeros(599)})
	same(t, "Possible", isPossible, e, false, api.OK)
}

// P5.5: the errors of records and bounds, in their order.
func TestBendErrors(t *testing.T) {
	for wanted, records := range badRecords() {
		for _, samples := range records {
			bend, e := wave.Bend(samples)
			same(t, "Bend", bend, e, "", wanted)
			for _, s := range []wave.Signal{{Bend: "x", Noise: "x"}, {Bend: "-1", Noise: "1"}, {Bend: "1", Noise: "1"}} {
				isPossible, e := wave.Possible(samples, s)
				same(t, "Possible", isPossible, e, false, wanted)
			}
		}
	}
	for n := range 3 {
		bend, e := wave.Bend(make([]float32, n))
		same(t, "Bend", bend, e, "", api.ErrShort)
	}
	for s, wanted := range badSignals() {
		for n := range 5 {
			isPossible, e := wave.Possible(exampleRecord()[:n], s)
			same(t, "Possible", isPossible, e, false, wanted)
		}
	}
}

// checkArea compares areas and extremes between two times with the definition.
func checkArea(t *testing.T, samples []float32, from, to *big.Rat, s wave.Signal) {
	t.Helper()
	at := func(x *big.Rat) *big.Rat { return line(samples, x) }
	center := integral(from, to, at)
	wanted, wantedError := rat(center)
	area, e := wave.Area(samples, text(from), text(to))
	same(t, "Area", area, e, wanted, wantedError)
	margin := plus(times(valid(s.Noise), minus(to, from)), times(valid(s.Bend), integral(from, to, arch)))
	wantedSpan, wantedError := around(center, margin)
	areas, e := wave.AreaSpan(samples, text(from), text(to), s)
	same(t, "AreaSpan", areas, e, wantedSpan, wantedError)
	least, greatest := referenceExtremes(samples, from, to)
	low, errLow := rat(least)
	high, errHigh := rat(greatest)
	wantedSpan, wantedError = span(low, high), max(errLow, errHigh)
	if wantedError != api.OK {
		wantedSpan = api.Span{}
	}
	extremes, e := wave.Extremes(samples, text(from), text(to))
	same(t, "Extremes", extremes, e, wantedSpan, wantedError)
}

// P5.5: random records between random times.
func TestAreas(t *testing.T) {
	r := source(42)
	for range 800 {
		samples := anyRecord(r, 1+r.Intn(12))
		l := []*big.Rat{anyTime(r, len(samples)), anyTime(r, len(samples))}
		slices.SortFunc(l, (*big.Rat).Cmp)
		s := wave.Signal{Bend: text(anyBound(r)), Noise: text(anyBound(r))}
		checkArea(t, samples, l[0], l[1], s)
		checkArea(t, samples, l[0], l[0], s)
	}
}

// P5.5: whole records, also the longest one, and times within one line.
func TestAreasOfWholeRecords(t *testing.T) {
	r := source(43)
	s := wave.Signal{Bend: "5/7", Noise: "1/9"}
	for _, n := range []int{1, 2, 3, 4095, 4096} {
		samples := anyRecord(r, n)
		samples[0] = negativeZero()
		checkArea(t, samples, integer(0), integer(n-1), s)
		checkArea(t, samples, integer(n-1), integer(n-1), s)
		if n > 1 {
			checkArea(t, samples, big.NewRat(1, 5), big.NewRat(4, 5), s)
			checkArea(t, samples, big.NewRat(4, 5), integer(n-1), s)
			checkArea(t, samples, integer(n-2), integer(n-1), s)
		}
	}
}

// P5.5: times and bounds with many digits: the results have too many, or just not.
func TestAreaSizes(t *testing.T) {
	r := source(44)
	errors := map[api.Errno]int{}
	for i := range 100 {
		samples := [][]float32{{0, 1, 2}, {7, 7, 7}, {0, 0, 0}, anyRecord(r, 3)}[i%4]
		digits := []int{140, 150, 299, 300, 590}
		pick := func() *big.Rat { return largeNumber(r, digits[r.Intn(5)]) }
		from := pick()
		to := plus(pick(), integer(1))
		if r.Intn(3) == 0 {
			to = plus(integer(1), from)
		}
		bend, noise := pick(), pick()
		if r.Intn(2) == 0 {
			bend = integer(0)
		}
		s := wave.Signal{Bend: text(bend), Noise: text(noise)}
		checkArea(t, samples, from, to, s)
		_, e := wave.AreaSpan(samples, text(from), text(to), s)
		errors[e]++
	}
	if errors[api.OK] == 0 || errors[api.ErrLarge] == 0 {
		t.Errorf("the sizes decide nothing: %v", errors)
	}
}

// P5.5: the area from 0 on has more digits than a number may have, and so has a value at an end, but the result has not.
func TestAreasOnTheWay(t *testing.T) {
	at, s := "1/1"+zeros(599), wave.Signal{Bend: nines(600), Noise: nines(600)}
	_, e := wave.Area([]float32{0, 1}, "0", at)
	same(t, "Area", 0, e, 0, api.ErrLarge)
	area, e := wave.Area([]float32{0, 1}, at, at)
	same(t, "Area", area, e, "0", api.OK)
	areas, e := wave.AreaSpan([]float32{0, 1}, at, at, s)
	same(t, "AreaSpan", areas, e, span("0", "0"), api.OK)
	_, e = wave.Linear([]float32{1, 7 * 0x1p-140, 0}, at)
	same(t, "Linear", 0, e, 0, api.ErrLarge)
	extremes, e := wave.Extremes([]float32{1, 7 * 0x1p-140, 0, 2, 0}, at, "7/2")
	same(t, "Extremes", extremes, e, span("0", "2"), api.OK)
	_, e = wave.Extremes([]float32{1, 7 * 0x1p-140, 0, 2, 0}, at, "1/2")
	same(t, "Extremes", 0, e, 0, api.ErrLarge)
}

// P5.5: the errors of records, times and bounds, in their order.
func TestAreaErrors(t *testing.T) {
	good, bad := wave.Signal{Bend: "1", Noise: "1"}, wave.Signal{Bend: "x", Noise: "-1"}
	check := func(samples []float32, from, to api.Rat, s wave.Signal, wanted api.Errno) {
		t.Helper()
		areas, e := wave.AreaSpan(samples, from, to, s)
		same(t, "AreaSpan", areas, e, api.Span{}, wanted)
	}
	checkAll := func(samples []float32, from, to api.Rat, wanted api.Errno) {
		t.Helper()
		area, e := wave.Area(samples, from, to)
		same(t, "Area", area, e, "", wanted)
		extremes, e := wave.Extremes(samples, from, to)
		same(t, "Extremes", extremes, e, api.Span{}, wanted)
		check(samples, from, to, good, wanted)
	}
	for wanted, records := range badRecords() {
		for _, samples := range records {
			checkAll(samples, "x", "-1", wanted)
			checkAll(samples, "0", "0", wanted)
			check(samples, "x", "-1", bad, wanted)
		}
	}
	for _, n := range []int{1, 5} {
		samples := exampleRecord()[:n]
		for _, wrong := range badTimes(n) {
			for _, other := range []api.Rat{"x", "-1", nines(601), "0"} {
				checkAll(samples, wrong.a, other, wrong.e)
				check(samples, wrong.a, other, bad, wrong.e)
			}
			checkAll(samples, "0", wrong.a, wrong.e)
			check(samples, "0", wrong.a, bad, wrong.e)
		}
	}
	for s, wanted := range badSignals() {
		check(exampleRecord(), "1", "2", s, wanted)
		check(exampleRecord(), "2", "1", s, wanted)
	}
	checkAll(nil, "0", "0", api.ErrRange)
	checkAll(exampleRecord(), "2", "1", api.ErrOrder)
	checkAll(exampleRecord(), "1/"+nines(599), "1/"+nines(600), api.ErrOrder)
	checkAll(exampleRecord(), "4", "0", api.ErrOrder)
}

// P5.5: samples do not change.
func TestAreasChangeNothing(t *testing.T) {
	unchanged(t, []float32{1, negativeZero(), 3, -2, 5}, func(samples []float32) {
		wave.Bend(samples)
		wave.Possible(samples, wave.Signal{Bend: "1", Noise: "1/3"})
		wave.Area(samples, "1/2", "7/2")
		wave.AreaSpan(samples, "1/2", "7/2", wave.Signal{Bend: "1", Noise: "1/3"})
		wave.Extremes(samples, "1/2", "7/2")
	})
}
