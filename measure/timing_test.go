package measure_test

import (
	"math"
	"math/big"
	"slices"
	"testing"

	"strobe/api"
	"strobe/measure"
)

// P6.3: the examples 4 of the chapter.
func TestTimingExamples(t *testing.T) {
	r := exampleRecord()
	l, e := measure.Periods(r, "3")
	sameList(t, "Periods", l, e, []api.Rat{"7"}, api.OK)
	l, e = measure.Widths(r, "3", true)
	sameList(t, "Widths", l, e, []api.Rat{"3"}, api.OK)
	l, e = measure.Widths(r, "3", false)
	sameList(t, "Widths", l, e, []api.Rat{"4"}, api.OK)
	x, e := measure.Duty(r, "3")
	same(t, "Duty", x, e, "3/7", api.OK)
	x, e = measure.Frequency(r, "3")
	same(t, "Frequency", x, e, "1/7", api.OK)
	j, e := measure.FindJitter(r, "3")
	same(t, "FindJitter", j, e, measure.Jitter{Period: "0", Cycle: "0", Error: "0"}, api.OK)
	x, e = measure.Phase(r, []float32{0, 0, 0, 4, 0}, "3")
	same(t, "Phase", x, e, "1/28", api.OK)
}

// timing is what P6.3 promises of a record and a level.
type timing struct {
	periods, positive, negative []api.Rat
	duty, frequency             api.Rat
	jitter                      measure.Jitter
	// e is the error of those that need a period.
	e api.Errno
}

// sameTiming compares all measurements of a record with the expected ones.
func sameTiming(t *testing.T, s []float32, level api.Rat, wanted timing) {
	t.Helper()
	l, e := measure.Periods(s, level)
	sameList(t, "Periods", l, e, wanted.periods, api.OK)
	l, e = measure.Widths(s, level, true)
	sameList(t, "Widths", l, e, wanted.positive, api.OK)
	l, e = measure.Widths(s, level, false)
	sameList(t, "Widths", l, e, wanted.negative, api.OK)
	x, e := measure.Duty(s, level)
	same(t, "Duty", x, e, wanted.duty, wanted.e)
	x, e = measure.Frequency(s, level)
	same(t, "Frequency", x, e, wanted.frequency, wanted.e)
	j, e := measure.FindJitter(s, level)
	same(t, "FindJitter", j, e, wanted.jitter, wanted.e)
}

// P6.3: records with no, one, two and more rising crossings, and crossings at samples.
func TestTiming(t *testing.T) {
	short := func(positive, negative []api.Rat) timing {
		return timing{positive: positive, negative: negative, e: api.ErrShort}
	}
	sameTiming(t, nil, "1", short(nil, nil))
	sameTiming(t, []float32{3}, "1", short(nil, nil))
	sameTiming(t, []float32{2, 2, 3, 2}, "1", short(nil, nil))
	sameTiming(t, []float32{2, 0}, "1", short(nil, nil))
	sameTiming(t, []float32{0, 2}, "1", short(nil, nil))
	sameTiming(t, []float32{0, 2, 0}, "1", short([]api.Rat{"1"}, nil))
	sameTiming(t, []float32{2, 0, 2}, "1", short(nil, []api.Rat{"1"}))
	sameTiming(t, []float32{2, 0, 0, 2, 0}, "1", short([]api.Rat{"1"}, []api.Rat{"2"}))
	one := timing{periods: []api.Rat{"2"}, positive: []api.Rat{"1"}, negative: []api.Rat{"1"}, duty: "1/2", frequency: "1/2", jitter: measure.Jitter{Period: "0", Cycle: "0", Error: "0"}}
	sameTiming(t, []float32{0, 2, 0, 2}, "1", one)
	// The width that begins at the last rising crossing belongs to no period.
	one.positive = []api.Rat{"1", "6"}
	sameTiming(t, []float32{0, 2, 0, 2, 2, 2, 2, 2, 2, 0}, "1", one)
	one.negative = []api.Rat{"3", "1"}
	sameTiming(t, []float32{2, 0, 0, 0, 2, 0, 2, 2, 2, 2, 2, 2, 0}, "1", one)
	sameTiming(t, []float32{0, 2, 0, 2}, "2", timing{periods: []api.Rat{"2"}, positive: []api.Rat{"0"}, negative: []api.Rat{"2"}, duty: "0", frequency: "1/2", jitter: one.jitter})
	// Rising at 1/2, 5/2, 11/2 and 17/2: the periods are 2, 3, 3, the mean period is 8/3.
	sameTiming(t, []float32{0, 2, 0, 2, 2, 0, 2, 0, 0, 2}, "1", timing{periods: []api.Rat{"2", "3", "3"}, positive: []api.Rat{"1", "2", "1"}, negative: []api.Rat{"1", "1", "2"}, duty: "1/2", frequency: "3/8", jitter: measure.Jitter{Period: "1", Cycle: "1", Error: "2/3"}})
	// The periods 2, 5, 3 differ by 3 at most, two in turn by 3.
	sameTiming(t, []float32{0, 2, 0, 2, 2, 2, 0, 0, 2, 0, 0, 2}, "1", timing{periods: []api.Rat{"2", "5", "3"}, positive: []api.Rat{"1", "3", "1"}, negative: []api.Rat{"1", "2", "2"}, duty: "1/2", frequency: "3/10", jitter: measure.Jitter{Period: "3", Cycle: "3", Error: "4/3"}})
	// The periods 2, 3, 4 differ by 2 at most, two in turn only by 1.
	sameTiming(t, []float32{0, 2, 0, 2, 0, 0, 2, 0, 0, 0, 2}, "1", timing{periods: []api.Rat{"2", "3", "4"}, positive: []api.Rat{"1", "1", "1"}, negative: []api.Rat{"1", "2", "3"}, duty: "1/3", frequency: "1/3", jitter: measure.Jitter{Period: "2", Cycle: "1", Error: "1"}})
}

// P6.3: phases before and after the reference, of whole periods, and at both ends.
func TestPhase(t *testing.T) {
	reference := []float32{0, 0, 0, 2, 0, 2, 0}
	for _, row := range []struct {
		b      []float32
		wanted api.Rat
	}{
		{reference, "0"}, {[]float32{0, 2}, "0"}, {[]float32{0, 0, 2}, "1/2"}, {[]float32{0, 0, 0, 0, 2}, "1/2"}, {[]float32{0, 0, 0, 0, 0, 0, 0, 2}, "0"},
		{[]float32{0, 0, 0, 4}, "7/8"}, {[]float32{0, 0, 0, 1}, "1/4"}, {[]float32{2, 0, 4}, "3/8"}, {[]float32{0, 1, 0, 7, 0}, "1/4"},
	} {
		x, e := measure.Phase(reference, row.b, "1")
		same(t, "Phase", x, e, row.wanted, api.OK)
	}
	for _, b := range [][]float32{nil, {2}, {2, 2, 0}, {0, 0}} {
		x, e := measure.Phase(reference, b, "1")
		same(t, "Phase", x, e, "", api.ErrShort)
		x, e = measure.Phase(b, reference, "1")
		same(t, "Phase", x, e, "", api.ErrShort)
	}
	x, e := measure.Phase([]float32{0, 2, 0}, reference, "1")
	same(t, "Phase", x, e, "", api.ErrShort)
}

// checkTiming compares all measurements with the definitions, and counts their errors.
func checkTiming(t *testing.T, s, other []float32, level *big.Rat, errors map[string]map[api.Errno]int) {
	t.Helper()
	a := text(level)
	count := func(name string, e api.Errno) {
		if errors[name] == nil {
			errors[name] = map[api.Errno]int{}
		}
		errors[name][e]++
	}
	crossings := crossingsOf(s, level)
	for name, row := range map[string]struct{ from, to bool }{"Periods": {true, true}, "positive": {true, false}, "negative": {false, true}} {
		wanted, wantedError := rats(between(crossings, row.from, row.to))
		l, e := measure.Periods(s, a)
		if name != "Periods" {
			l, e = measure.Widths(s, a, row.from)
		}
		sameList(t, name, l, e, wanted, wantedError)
		count(name, e)
	}
	wanted, wantedError := referenceDuty(s, level)
	x, e := measure.Duty(s, a)
	same(t, "Duty", x, e, wanted, wantedError)
	count("Duty", e)
	wanted, wantedError = referenceFrequency(s, level)
	x, e = measure.Frequency(s, a)
	same(t, "Frequency", x, e, wanted, wantedError)
	count("Frequency", e)
	wanted, wantedError = referencePhase(s, other, level)
	x, e = measure.Phase(s, other, a)
	same(t, "Phase", x, e, wanted, wantedError)
	count("Phase", e)
	jitter, wantedError := referenceJitter(s, level)
	j, e := measure.FindJitter(s, a)
	same(t, "FindJitter", j, e, jitter, wantedError)
	count("FindJitter", e)
}

// P6.3: the measurements of random records.
func TestTimings(t *testing.T) {
	r := source(20)
	errors := map[string]map[api.Errno]int{}
	for range 200 {
		s := anyRecord(r, r.Intn(40))
		for _, level := range levels(r, s) {
			checkTiming(t, s, anyRecord(r, r.Intn(9)), level, errors)
		}
	}
	for range 20 {
		s := make([]float32, 4096)
		for i := range s {
			s[i] = float32(r.Intn(4))
		}
		checkTiming(t, s, s[1:], big.NewRat(1+r.Int63n(5), 2), errors)
	}
	for name, n := range errors {
		if n[api.OK] == 0 || n[api.ErrShort] == 0 && name != "Periods" && name != "positive" && name != "negative" {
			t.Errorf("%s: the records decide nothing: %v", name, n)
		}
	}
}

// P6.3: levels with the most digits: the results have too many, or just not.
func TestTimingSizes(t *testing.T) {
	r := source(21)
	errors := map[string]map[api.Errno]int{}
	for range 200 {
		s := make([]float32, 6+r.Intn(10))
		for i := range s {
			s[i] = float32(r.Intn(5)-2) / 2
		}
		level := largeNumber(r, []int{150, 199, 290, 300, 590, 599, 600}[r.Intn(7)])
		checkTiming(t, s, []float32{-1, float32(r.Intn(9))}, level, errors)
	}
	for name, n := range errors {
		if n[api.OK] == 0 || n[api.ErrLarge] == 0 {
			t.Errorf("%s: the sizes decide nothing: %v", name, n)
		}
	}
}

// P6.3: the times of crossings have more digits than a number may have, but their differences have few.
func TestTimingOnTheWay(t *testing.T) {
	s := []float32{0, 11, 0, 11, 11, 0, 0, 11}
	level := api.Rat("1/1" + zeros(599))
	crossings, e := measure.Crossings(s, level)
	sameList(t, "Crossings", crossings, e, nil, api.ErrLarge)
	l, e := measure.Periods(s, level)
	sameList(t, "Periods", l, e, []api.Rat{"2", "4"}, api.OK)
	l, e = measure.Widths(s, level, true)
	sameList(t, "Widths", l, e, nil, api.ErrLarge)
	wanted, _ := referenceDuty(s, valid(level))
	x, e := measure.Duty(s, level)
	same(t, "Duty", x, e, wanted, api.OK)
	x, e = measure.Frequency(s, level)
	same(t, "Frequency", x, e, "1/3", api.OK)
	x, e = measure.Phase(s, s[2:], level)
	same(t, "Phase", x, e, "0", api.OK)
	j, e := measure.FindJitter(s, level)
	same(t, "FindJitter", j, e, measure.Jitter{Period: "2", Cycle: "2", Error: "1"}, api.OK)
}

// P6.3: the errors of records and levels, in their order.
func TestTimingErrors(t *testing.T) {
	check := func(s []float32, level api.Rat, wanted api.Errno) {
		t.Helper()
		l, e := measure.Periods(s, level)
		sameList(t, "Periods", l, e, nil, wanted)
		for _, positive := range []bool{false, true} {
			l, e = measure.Widths(s, level, positive)
			sameList(t, "Widths", l, e, nil, wanted)
		}
		x, e := measure.Duty(s, level)
		same(t, "Duty", x, e, "", wanted)
		x, e = measure.Frequency(s, level)
		same(t, "Frequency", x, e, "", wanted)
		x, e = measure.Phase(s, nil, level)
		same(t, "Phase", x, e, "", wanted)
		j, e := measure.FindJitter(s, level)
		same(t, "FindJitter", j, e, measure.Jitter{}, wanted)
	}
	for _, bad := range badRecords() {
		check(bad.s, "x", bad.e)
		check(bad.s, "1", bad.e)
		for _, a := range [][]float32{nil, exampleRecord()} {
			x, e := measure.Phase(a, bad.s, "x")
			same(t, "Phase", x, e, "", bad.e)
			x, e = measure.Phase(a, bad.s, "1")
			same(t, "Phase", x, e, "", bad.e)
		}
	}
	x, e := measure.Phase(make([]float32, 4097), notFinite(), "x")
	same(t, "Phase", x, e, "", api.ErrMany)
	x, e = measure.Phase(notFinite(), make([]float32, 4097), "x")
	same(t, "Phase", x, e, "", api.ErrForm)
	for _, bad := range badNumbers() {
		check(nil, bad.a, bad.e)
		check(exampleRecord(), bad.a, bad.e)
		x, e := measure.Phase(exampleRecord(), exampleRecord(), bad.a)
		same(t, "Phase", x, e, "", bad.e)
	}
}

// P6.3: samples do not change, and results share no memory.
func TestTimingChangesNothing(t *testing.T) {
	unchanged(t, []float32{1, negativeZero(), 3, -2, 5, math.MaxFloat32, -1, 4}, func(s []float32) {
		first, _ := measure.Periods(s, "1/2")
		second, _ := measure.Periods(s, "1/2")
		before := slices.Clone(second)
		clear(first)
		sameList(t, "Periods", second, api.OK, before, api.OK)
		measure.Widths(s, "1/2", true)
		measure.Duty(s, "1/2")
		measure.Frequency(s, "1/2")
		measure.Phase(s, s[1:], "1/2")
		measure.FindJitter(s, "1/2")
	})
}
