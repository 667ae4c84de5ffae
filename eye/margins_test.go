package eye_test

import (
	"math"
	"math/big"
	"testing"

	"strobe/api"
	"strobe/eye"
)

// P8.5: the examples 6 and 7 of the chapter.
func TestMarginExamples(t *testing.T) {
	for f, wanted := range map[float32]api.Rat{1: "1", 0.75: "1/2", 0.5: "0"} {
		// All phases are 1/2.
		margin, e := eye.Margin(eye.Clock{Start: "-1/2", Period: "1"}, []float32{f}, unitMask())
		same(t, "Margin", margin, e, wanted, api.OK)
	}
	c := eye.Clock{Start: "0", Period: "2"}
	opening, e := eye.Opening(c, []float32{1, 5, 0, 7}, "3", "1/2", "1/2")
	same(t, "Opening", opening, e, "", api.ErrNone)
	opening, e = eye.Opening(c, []float32{1, 5, 0, 7}, "3", "0", "1/2")
	same(t, "Opening", opening, e, "4", api.OK)
}

// P8.5: points on all sides, the nearest of several, and bit numbers of any size.
func TestMargin(t *testing.T) {
	c := eye.Clock{Start: "0", Period: "2"}
	diamond := []api.Point{at("1/4", "0"), at("1/2", "-2"), at("3/4", "0"), at("1/2", "2")}
	for _, row := range []struct {
		samples []float32
		m       []api.Point
		wanted  api.Rat
	}{
		{[]float32{0}, unitMask(), "1"}, {[]float32{0.25}, unitMask(), "1"}, {[]float32{2}, unitMask(), "3"}, {[]float32{-2}, unitMask(), "5"}, {[]float32{2, 1.5}, unitMask(), "2"}, {[]float32{1.5, 2}, unitMask(), "2"}, {[]float32{1.5, 2, 1.5, 1.25, 9}, unitMask(), "3/2"},
		{[]float32{9, 9, 9, 0.5, 9}, unitMask(), "0"}, {[]float32{9, 0.5, 9, 0.75, 9}, unitMask(), "0"}, {[]float32{9, 0.75, 0.5, 9}, unitMask(), "1/2"},
		{[]float32{0}, diamond, "2"}, {[]float32{2}, diamond, "3"}, {[]float32{-2}, diamond, "3"}, {[]float32{7, 1}, diamond, "1/2"}, {[]float32{7, -1, 7, 2}, diamond, "1/2"}, {[]float32{7, 0}, diamond, "0"}, {[]float32{7, -3}, diamond, "3/2"},
		// The centre of the triangle is at 1/2 and 1/3.
		{[]float32{7, 1}, exampleMask(), "1"}, {[]float32{7, 0}, exampleMask(), "1"}, {[]float32{7, -1}, exampleMask(), "4"}, {[]float32{7, 2}, exampleMask(), "5/2"}, {[]float32{0, 9}, exampleMask(), "5/2"},
	} {
		for _, start := range numbers("0", "-2", "2"+zeros(599)) {
			margin, e := eye.Margin(eye.Clock{Start: start, Period: c.Period}, row.samples, row.m)
			same(t, "Margin", margin, e, row.wanted, api.OK)
		}
	}
}

// P8.5: the errors of clocks, samples and masks, in their order.
func TestMarginErrors(t *testing.T) {
	check := func(c eye.Clock, samples []float32, m []api.Point, wanted api.Errno) {
		t.Helper()
		margin, e := eye.Margin(c, samples, m)
		same(t, "Margin", margin, e, "", wanted)
	}
	for _, b := range badClocks() {
		check(b.argument, notFinite(), nil, b.e)
		check(b.argument, nil, unitMask(), b.e)
	}
	for _, b := range badSamples() {
		check(exampleClock(), b.argument, nil, b.e)
		check(exampleClock(), b.argument, unitMask(), b.e)
	}
	for _, b := range badMasks() {
		check(exampleClock(), nil, b.argument, b.e)
		check(exampleClock(), []float32{1}, b.argument, b.e)
	}
	check(exampleClock(), nil, unitMask(), api.ErrEmpty)
	check(exampleClock(), []float32{}, exampleMask(), api.ErrEmpty)
}

// P8.5: random clocks, samples and masks, and those with the most digits.
func TestMargins(t *testing.T) {
	r := source(40)
	found := map[api.Errno]int{}
	check := func(c eye.Clock, samples []float32, m []api.Point) {
		t.Helper()
		wanted, wantedError := referenceMargin(c, samples, m)
		margin, e := eye.Margin(c, samples, m)
		same(t, "Margin", margin, e, wanted, wantedError)
		found[e]++
	}
	for range 400 {
		check(anyClock(r), anySamples(r, r.Intn(20)), anyMask(r, fraction(1, 5+r.Int63n(4))))
	}
	for range 100 {
		part := func() *big.Rat { return largeNumber(r, []int{50, 100, 200, 598}[r.Intn(4)]) }
		c, m := anyClock(r), anyMask(r, fraction(1, 8))
		switch r.Intn(3) {
		case 0:
			c = clock(part(), plus(fraction(1, 3), part()))
		case 1:
			m = anyMask(r, part())
		default:
			m[0].Y = text(plus(valid(m[0].Y), times(part(), fraction(1, 1000))))
		}
		if isMask(m) {
			check(c, anySamples(r, r.Intn(5)), m)
		}
	}
	decided(t, "Margin", found, api.OK, api.ErrEmpty, api.ErrLarge)
}

// P8.5: the centre of a mask may have more digits than a number may have, while the margin has few.
func TestMarginOnTheWay(t *testing.T) {
	c := eye.Clock{Start: "0", Period: "1"}
	m := []api.Point{at("0", "0"), at("1/2", "-1/"+nines(599)), at("1", "0"), at("1", "1"+zeros(599)+"/3"), at("0", "1"+zeros(598)+"/7")}
	// A point on the border has the scale 1, whatever the centre is.
	margin, e := eye.Margin(c, []float32{1, 0, 2}, m)
	same(t, "Margin", margin, e, "1", api.OK)
	wanted, wantedError := referenceMargin(c, []float32{-1}, m)
	isError(t, "the reference", wantedError, api.ErrLarge)
	margin, e = eye.Margin(c, []float32{-1}, m)
	same(t, "Margin", margin, e, wanted, wantedError)
}

// P8.5: phases at both ends, values at the level, and the nearest values of several.
func TestOpening(t *testing.T) {
	c := eye.Clock{Start: "0", Period: "4"}
	samples := []float32{9, 3, 2, -1, 4, 6, 0, -3}
	for _, row := range []struct {
		level, from, to, wanted api.Rat
		e                       api.Errno
	}{
		{"1", "0", "3/4", "2", api.OK}, {"1", "1/4", "3/4", "2", api.OK}, {"1", "1/4", "1/2", "2", api.OK}, {"2", "1/4", "1/2", "2", api.OK}, {"200001/100000", "1/4", "1/2", "1", api.OK}, {"3", "1/4", "1/2", "1", api.OK}, {"3", "0", "1/2", "1", api.OK}, {"4", "0", "1/4", "1", api.OK}, {"9", "0", "1/4", "3", api.OK},
		{"0", "1/2", "3/4", "1", api.OK}, {"1/2", "1/2", "3/4", "2", api.OK}, {"1/2", "1/2", "1/2", "2", api.OK}, {"0", "1/2", "1/2", "", api.ErrNone}, {"5/2", "1/2", "1/2", "", api.ErrNone}, {"0", "13/50", "49/100", "", api.ErrNone}, {"3", "0", "0", "", api.ErrNone}, {"4", "0", "0", "", api.ErrNone}, {"5", "0", "0", "5", api.OK},
		{"9", "0", "0", "5", api.OK}, {"900001/100000", "0", "0", "", api.ErrNone}, {"0", "3/4", "99/100", "", api.ErrNone}, {"-1", "3/4", "99/100", "2", api.OK}, {"-2", "3/4", "3/4", "2", api.OK}, {nines(600), "0", "99/100", "", api.ErrNone}, {"-" + nines(600), "0", "99/100", "", api.ErrNone}, {"5", "1/" + nines(600), "1/4", "3", api.OK},
	} {
		opening, e := eye.Opening(c, samples, row.level, row.from, row.to)
		same(t, "Opening "+string(row.level)+" "+string(row.from)+" "+string(row.to), opening, e, row.wanted, row.e)
	}
	opening, e := eye.Opening(c, []float32{math.MaxFloat32, -math.MaxFloat32, negativeZero()}, "0", "0", "1/4")
	same(t, "Opening", opening, e, text(times(integer(2), exact(math.MaxFloat32))), api.OK)
	opening, e = eye.Opening(c, []float32{negativeZero(), -math.SmallestNonzeroFloat32, 0}, "0", "0", "1/2")
	same(t, "Opening", opening, e, text(exact(math.SmallestNonzeroFloat32)), api.OK)
	opening, e = eye.Opening(c, nil, "0", "0", "1/2")
	same(t, "Opening", opening, e, "", api.ErrNone)
}

// P8.5: the errors of all arguments, in their order.
func TestOpeningErrors(t *testing.T) {
	check := func(c eye.Clock, samples []float32, level, from, to api.Rat, wanted api.Errno) {
		t.Helper()
		opening, e := eye.Opening(c, samples, level, from, to)
		same(t, "Opening", opening, e, "", wanted)
	}
	c := exampleClock()
	for _, b := range badClocks() {
		check(b.argument, notFinite(), "x", "x", "x", b.e)
		check(b.argument, nil, "0", "0", "0", b.e)
	}
	for _, b := range badSamples() {
		check(c, b.argument, "x", "x", "x", b.e)
		check(c, b.argument, "0", "1", "0", b.e)
	}
	for _, b := range badNumbers() {
		check(c, nil, b.argument, "x", nines(601), b.e)
		check(c, nil, "0", b.argument, "x", b.e)
		check(c, nil, "0", b.argument, nines(601), b.e)
		check(c, nil, "0", "-1", b.argument, b.e)
		check(c, nil, "0", "2", b.argument, b.e)
	}
	for _, row := range [][2]api.Rat{{"-1", "1/2"}, {"-1/" + nines(600), "1/2"}, {"0", "1"}, {"0", nines(600)}, {"1/2", "1/3"}, {"1/3", "0"}, {"1", "1"}, {"1", "0"}, {"-1", "-1"}, {"0", "-1"}} {
		check(c, nil, "0", row[0], row[1], api.ErrRange)
		check(c, []float32{-1, 1, -1, 1}, "0", row[0], row[1], api.ErrRange)
	}
}

// P8.5: random clocks, samples, levels and phases.
func TestOpenings(t *testing.T) {
	r := source(41)
	found := map[api.Errno]int{}
	for range 1500 {
		c, samples, level := anyClock(r), anySamples(r, r.Intn(20)), anyNumber(r)
		from, to := fraction(r.Int63n(12), 12), fraction(r.Int63n(12), 12)
		if from.Cmp(to) > 0 {
			from, to = to, from
		}
		wanted, wantedError := referenceOpening(c, samples, level, from, to)
		opening, e := eye.Opening(c, samples, text(level), text(from), text(to))
		same(t, "Opening", opening, e, wanted, wantedError)
		found[e]++
	}
	decided(t, "Opening", found, api.OK, api.ErrNone)
}

// P8.5: arguments do not change.
func TestMarginsChangeNothing(t *testing.T) {
	unchanged(t, []float32{1, 5, -3, 7, 2, 2}, func(samples []float32) {
		unchanged(t, exampleMask(), func(m []api.Point) {
			eye.Margin(exampleClock(), samples, m)
			eye.Opening(exampleClock(), samples, "2", "0", "1/2")
		})
	})
}
