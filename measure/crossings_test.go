package measure_test

import (
	"math"
	"math/big"
	"slices"
	"testing"

	"strobe/api"
	"strobe/measure"
)

// P6.2: the examples 2 and 3 of the chapter.
func TestCrossingExamples(t *testing.T) {
	r := exampleRecord()
	crossings, e := measure.Crossings(r, "3")
	sameList(t, "Crossings", crossings, e, []measure.Crossing{{Time: "5/2", Rising: true}, {Time: "11/2"}, {Time: "19/2", Rising: true}}, api.OK)
	windows, e := measure.Windows(r, "3", "1/2")
	sameList(t, "Windows", windows[:1], e, []measure.Window{{Time: span("9/4", "11/4"), Rising: true}}, api.OK)
	transitions, e := measure.Transitions(r, "1", "3")
	sameList(t, "Transitions", transitions, e, []measure.Transition{{Start: "3/2", End: "5/2", Rising: true}, {Start: "11/2", End: "13/2"}, {Start: "17/2", End: "19/2", Rising: true}}, api.OK)
}

// P6.2: samples at the level count as above it.
func TestCrossingsAtLevel(t *testing.T) {
	for _, row := range []struct {
		s      []float32
		level  api.Rat
		wanted []measure.Crossing
	}{
		{[]float32{0, 1, 0}, "1", []measure.Crossing{{Time: "1", Rising: true}, {Time: "1"}}},
		{[]float32{1, 0, 1}, "1", []measure.Crossing{{Time: "0"}, {Time: "2", Rising: true}}},
		{[]float32{0, 1, 1, 0}, "1", []measure.Crossing{{Time: "1", Rising: true}, {Time: "2"}}},
		{[]float32{1, 1, 2, 1}, "1", nil},
		{[]float32{-1, negativeZero(), -1, 0, 1}, "0", []measure.Crossing{{Time: "1", Rising: true}, {Time: "1"}, {Time: "3", Rising: true}}},
		{[]float32{5}, "5", nil}, {nil, "5", nil}, {[]float32{5, 6}, "5", nil}, {[]float32{6, 5}, "5", nil},
		{[]float32{-math.MaxFloat32, math.MaxFloat32}, "0", []measure.Crossing{{Time: "1/2", Rising: true}}},
		{[]float32{-1, 1, -1}, nines(600), nil}, {[]float32{-1, 1, -1}, "-" + nines(600), nil},
	} {
		got, e := measure.Crossings(row.s, row.level)
		sameList(t, "Crossings", got, e, row.wanted, api.OK)
	}
}

// P6.2: samples that differ from the level by the error, or by a little more.
func TestWindowsAtMargin(t *testing.T) {
	for _, row := range []struct {
		s        []float32
		level, e api.Rat
		wanted   []measure.Window
		err      api.Errno
	}{
		{[]float32{0, 4, 0}, "1", "0", []measure.Window{{Time: span("1/4", "1/4"), Rising: true}, {Time: span("7/4", "7/4")}}, api.OK},
		{[]float32{0, 4, 0}, "1", "1", nil, api.ErrOpen}, {[]float32{0, 4, 0}, "4", "0", nil, api.ErrOpen}, {[]float32{4}, "3", "1", nil, api.ErrOpen}, {[]float32{2}, "3", "1", nil, api.ErrOpen}, {[]float32{9, 9, 3}, "3", "0", nil, api.ErrOpen}, {[]float32{9, 9, 3}, "3", nines(600), nil, api.ErrOpen},
		{[]float32{0, 4, 0}, "1", "1/2", []measure.Window{{Time: span("1/8", "3/8"), Rising: true}, {Time: span("13/8", "15/8")}}, api.OK},
		{[]float32{0, 1}, "1/2", "1/3", []measure.Window{{Time: span("1/6", "5/6"), Rising: true}}, api.OK},
		{[]float32{5, 7, 6}, "1", "3", nil, api.OK}, {[]float32{5}, "1", "3", nil, api.OK}, {nil, "1", nines(600), nil, api.OK},
		{[]float32{negativeZero(), 1}, "0", "0", nil, api.ErrOpen},
		// A sample that is too near decides before numbers that have too many digits.
		{[]float32{0, 11, 7}, "1/3", "1/" + nines(600), nil, api.ErrLarge}, {[]float32{0, 11, 7}, "7", "1/" + nines(600), nil, api.ErrOpen},
	} {
		got, e := measure.Windows(row.s, row.level, row.e)
		sameList(t, "Windows", got, e, row.wanted, row.err)
	}
}

// P6.2: samples at the thresholds, and transitions that turn back.
func TestTransitionsAtThresholds(t *testing.T) {
	for _, row := range []struct {
		s      []float32
		wanted []measure.Transition
	}{
		{[]float32{0, 3}, []measure.Transition{{Start: "1/3", End: "1", Rising: true}}},
		{[]float32{0, 1, 3}, []measure.Transition{{Start: "1", End: "2", Rising: true}}},
		{[]float32{0, 1, 1, 2, 2, 3, 3}, []measure.Transition{{Start: "1", End: "5", Rising: true}}},
		{[]float32{3, 0}, []measure.Transition{{Start: "0", End: "2/3"}}},
		{[]float32{3, 1, 0}, []measure.Transition{{Start: "0", End: "1"}}},
		{[]float32{3, 1, 1, 0}, []measure.Transition{{Start: "0", End: "2"}}},
		{[]float32{1, 1, 1, 3, 2, 3}, nil}, {[]float32{1, 2, 0, 1, 2, 0, 2}, nil}, {[]float32{0, 2, 1, 0, 2, 2}, nil}, {[]float32{3, 2, 1, 3, 2, 1}, nil},
		{[]float32{0, 2, 0, 2, 4}, []measure.Transition{{Start: "5/2", End: "7/2", Rising: true}}},
		{[]float32{0, 4, 0, 4}, []measure.Transition{{Start: "1/4", End: "3/4", Rising: true}, {Start: "5/4", End: "7/4"}, {Start: "9/4", End: "11/4", Rising: true}}},
		{nil, nil}, {[]float32{0}, nil}, {[]float32{3}, nil}, {make([]float32, 4096), nil},
	} {
		got, e := measure.Transitions(row.s, "1", "3")
		sameList(t, "Transitions", got, e, row.wanted, api.OK)
	}
}

// checkCrossings compares crossings with the definition.
func checkCrossings(t *testing.T, s []float32, level *big.Rat) api.Errno {
	t.Helper()
	wanted, wantedError := referenceCrossings(s, level)
	got, e := measure.Crossings(s, text(level))
	sameList(t, "Crossings "+level.RatString(), got, e, wanted, wantedError)
	return e
}

// checkWindows compares windows with the definition.
func checkWindows(t *testing.T, s []float32, level, spread *big.Rat) api.Errno {
	t.Helper()
	wanted, wantedError := referenceWindows(s, level, spread)
	got, e := measure.Windows(s, text(level), text(spread))
	sameList(t, "Windows "+level.RatString(), got, e, wanted, wantedError)
	return e
}

// checkTransitions compares transitions with the definition.
func checkTransitions(t *testing.T, s []float32, low, high *big.Rat) (int, api.Errno) {
	t.Helper()
	wanted, wantedError := referenceTransitions(s, low, high)
	got, e := measure.Transitions(s, text(low), text(high))
	sameList(t, "Transitions "+low.RatString(), got, e, wanted, wantedError)
	return len(got), e
}

// P6.2: the crossings, windows and transitions of random records.
func TestCrossings(t *testing.T) {
	r := source(10)
	errors := map[api.Errno]int{}
	found := 0
	for range 300 {
		s := anyRecord(r, r.Intn(30))
		for _, level := range levels(r, s) {
			checkCrossings(t, s, level)
			spread := big.NewRat(max(0, r.Int63n(20)-12), 3+r.Int63n(30))
			errors[checkWindows(t, s, level, spread)]++
			n, _ := checkTransitions(t, s, level, plus(level, big.NewRat(1+r.Int63n(30), 1+r.Int63n(9))))
			found += n
		}
	}
	if errors[api.OK] == 0 || errors[api.ErrOpen] == 0 || found < 1000 {
		t.Errorf("the records decide nothing: %v, %d transitions", errors, found)
	}
	long := make([]float32, 4096)
	for i := range long {
		long[i] = float32(r.NormFloat64())
	}
	checkCrossings(t, long, big.NewRat(1, 7))
	checkWindows(t, long, big.NewRat(1, 7), new(big.Rat))
	checkTransitions(t, long, big.NewRat(-1, 7), big.NewRat(1, 7))
}

// P6.2: levels with the most digits: the times have too many, or just not, and only those of crossings count.
func TestCrossingSizes(t *testing.T) {
	r := source(11)
	sizes := [3]map[api.Errno]int{{}, {}, {}}
	for range 150 {
		s := make([]float32, 8)
		for i := range s {
			s[i] = float32(r.Intn(5)-2) / 2
		}
		digits := []int{190, 200, 590, 599, 600}
		level := largeNumber(r, digits[r.Intn(5)])
		sizes[0][checkCrossings(t, s, level)]++
		sizes[1][checkWindows(t, s, level, times(largeNumber(r, digits[r.Intn(3)]), big.NewRat(1, 1000)))]++
		_, e := checkTransitions(t, s, level, largeNumber(r, digits[r.Intn(5)]).Add(level, big.NewRat(1, 10)))
		sizes[2][e]++
	}
	for _, errors := range sizes {
		if errors[api.OK] == 0 || errors[api.ErrLarge] == 0 {
			t.Errorf("the sizes decide nothing: %v", errors)
		}
	}
	for _, row := range []struct {
		s      []float32
		wanted []measure.Crossing
		e      api.Errno
	}{{[]float32{0, 9}, []measure.Crossing{{Time: "1/9" + zeros(599), Rising: true}}, api.OK}, {[]float32{0, 11}, nil, api.ErrLarge}, {[]float32{0, 9, 0, 11}, nil, api.ErrLarge}, {[]float32{11, 9, 11}, nil, api.OK}} {
		got, e := measure.Crossings(row.s, "1/1"+zeros(599))
		sameList(t, "Crossings", got, e, row.wanted, row.e)
	}
}

// P6.2: the errors of records, levels and thresholds, in their order.
func TestCrossingErrors(t *testing.T) {
	check := func(s []float32, a, b api.Rat, wanted api.Errno) {
		t.Helper()
		crossings, e := measure.Crossings(s, a)
		sameList(t, "Crossings", crossings, e, nil, wanted)
		windows, e := measure.Windows(s, a, b)
		sameList(t, "Windows", windows, e, nil, wanted)
		transitions, e := measure.Transitions(s, a, b)
		sameList(t, "Transitions", transitions, e, nil, wanted)
	}
	for _, bad := range badRecords() {
		check(bad.s, "x", nines(601), bad.e)
		check(bad.s, "1", "-1", bad.e)
	}
	for _, bad := range badNumbers() {
		for _, other := range []api.Rat{"", nines(601), "-1", "1"} {
			check(nil, bad.a, other, bad.e)
			check(exampleRecord(), bad.a, other, bad.e)
		}
		windows, e := measure.Windows(exampleRecord(), "4", bad.a)
		sameList(t, "Windows", windows, e, nil, bad.e)
		transitions, e := measure.Transitions(exampleRecord(), "4", bad.a)
		sameList(t, "Transitions", transitions, e, nil, bad.e)
	}
	for _, spread := range []api.Rat{"-1", "-1/" + nines(600), "-" + nines(600)} {
		for _, s := range [][]float32{nil, exampleRecord()} {
			windows, e := measure.Windows(s, "4", spread)
			sameList(t, "Windows", windows, e, nil, api.ErrRange)
		}
	}
	for _, low := range []api.Rat{"1/2", "1", nines(600)} {
		for _, s := range [][]float32{nil, exampleRecord()} {
			transitions, e := measure.Transitions(s, low, "1/2")
			sameList(t, "Transitions", transitions, e, nil, api.ErrOrder)
		}
	}
}

// P6.2: samples do not change, and results share no memory.
func TestCrossingsChangeNothing(t *testing.T) {
	unchanged(t, []float32{1, negativeZero(), 3, -2, 5}, func(s []float32) {
		first, _ := measure.Crossings(s, "1/2")
		second, _ := measure.Crossings(s, "1/2")
		before := slices.Clone(second)
		clear(first)
		sameList(t, "Crossings", second, api.OK, before, api.OK)
		measure.Windows(s, "1/2", "1/3")
		measure.Transitions(s, "1/2", "2/3")
	})
}
