package trigger_test

import (
	"slices"
	"testing"

	"strobe/api"
	"strobe/trigger"
)

// holdsOf returns the times at which a condition of a source holds on a signal.
func holdsOf(t *testing.T, lines int, cond string, signal []int) []int {
	t.Helper()
	p := parsed(t, "lines "+string(rune('0'+lines))+"; "+cond+";")
	holds, e := trigger.Holds(lines, p.Steps[0].Cond, signal)
	same(t, "Holds", len(holds), e, len(signal), api.OK)
	var times []int
	for time, is := range holds {
		if is {
			times = append(times, time)
		}
	}
	return times
}

// P4.2: the examples 1 to 3 of the chapter.
func TestExamplesOfMeanings(t *testing.T) {
	for _, row := range []struct {
		lines  int
		cond   string
		signal []int
		times  []int
	}{
		{1, "pulse 0 2 2", []int{0, 1, 1, 0, 1, 0}, []int{3}}, {1, "pulse 0 2 2", []int{1, 1, 0}, nil}, {1, "idle 0 3", []int{0, 0, 0, 0}, []int{2}},
		{2, "runt 0 1", []int{0, 1, 1, 0}, []int{3}}, {2, "runt 0 1", []int{0, 1, 3, 0}, nil}, {2, "setup 0 1 2", []int{0, 1, 3}, []int{2}}, {2, "setup 0 1 2", []int{0, 1, 1, 3}, nil},
	} {
		sameList(t, row.cond, holdsOf(t, row.lines, row.cond, row.signal), 0, row.times, 0)
	}
	for _, row := range []struct {
		source        string
		signal, times []int
	}{
		{"lines 1; rise 0;", []int{0, 1, 1, 0, 1}, []int{1, 4}}, {"lines 2; rise 0; rise 1 within 2;", []int{0, 1, 1, 3}, []int{3}}, {"lines 2; rise 0; rise 1 within 2;", []int{0, 1, 1, 1, 3}, nil},
	} {
		times, e := trigger.Triggers(parsed(t, row.source), row.signal)
		sameList(t, row.source, times, e, row.times, api.OK)
	}
}

// P4.2: each kind of conditions, at time 0 and at the limits of widths.
func TestHolds(t *testing.T) {
	for _, row := range []struct {
		lines  int
		cond   string
		signal []int
		times  []int
	}{
		{2, "high 1", []int{2, 1, 3, 0}, []int{0, 2}}, {2, "low 1", []int{2, 1, 3, 0}, []int{1, 3}}, {2, "rise 1", []int{2, 1, 3, 3, 0, 2}, []int{2, 5}}, {2, "fall 1", []int{0, 2, 1, 3, 3, 0}, []int{2, 5}},
		{3, "pattern 1x0", []int{1, 3, 7, 5, 0, 3}, []int{0, 1, 5}}, {3, "pattern xxx", []int{0, 7}, []int{0, 1}}, {3, "enter 1x0", []int{1, 3, 7, 3, 1, 0, 1}, []int{3, 6}}, {3, "enter xxx", []int{0, 7}, nil}, {1, "enter 1", []int{1, 1, 0, 1}, []int{3}},
		{1, "pulse 0 1 1", []int{0, 1, 0, 1, 1, 0, 1}, []int{2}}, {1, "pulse 0 2 3", []int{0, 1, 0, 1, 1, 0, 1, 1, 1, 0, 1, 1, 1, 1, 0}, []int{5, 9}}, {1, "pulse 0 1 255", []int{1, 0, 0, 1, 1}, nil},
		{1, "gap 0 1 1", []int{1, 0, 1, 0, 0, 1, 0}, []int{2}}, {1, "gap 0 2 3", []int{1, 0, 1, 0, 0, 1, 0, 0, 0, 1, 0, 0, 0, 0, 1}, []int{5, 9}}, {1, "gap 0 1 255", []int{0, 1, 1, 0, 0}, nil},
		{1, "idle 0 1", []int{0, 0, 1, 0, 0, 1}, []int{0, 2, 3, 5}}, {1, "idle 0 2", []int{1, 1, 1, 0, 0, 1, 0, 0, 0}, []int{1, 4, 7}},
		{2, "setup 0 1 1", []int{0, 3, 1, 2, 0, 2}, []int{1, 3}}, {2, "setup 1 0 2", []int{0, 1, 0, 2, 1, 3}, []int{4}}, {2, "setup 0 1 3", []int{3, 2, 0, 2, 0, 2}, []int{3}}, {2, "setup 0 1 255", []int{1, 3, 1, 3}, nil},
		{2, "runt 0 1", []int{1, 0, 1, 2, 3, 1, 0, 1, 0}, []int{3, 8}}, {2, "runt 1 0", []int{0, 2, 2, 3, 0, 2, 1}, []int{6}}, {2, "runt 0 1", []int{0, 3, 1, 0}, nil},
		{1, "not(high 0)", []int{0, 1, 0}, []int{0, 2}}, {2, "all(high 0, low 1)", []int{0, 1, 2, 3}, []int{1}}, {2, "any(high 0, low 1)", []int{0, 1, 2, 3}, []int{0, 1, 3}},
		// All elements see each sample, also where others have decided.
		{2, "all(low 1, pulse 0 2 2)", []int{0, 3, 3, 0}, []int{3}}, {2, "any(high 1, pulse 0 2 2)", []int{0, 3, 3, 0}, []int{1, 2, 3}}, {2, "not(any(high 1, not(pulse 0 2 2)))", []int{0, 3, 3, 0}, []int{3}},
	} {
		sameList(t, row.cond, holdsOf(t, row.lines, row.cond, row.signal), 0, row.times, 0)
	}
}

// P4.2: the greatest widths, on the longest signals.
func TestHoldsOnLongSignals(t *testing.T) {
	var signal []int
	for width := 1; len(signal)+2*width < 4000; width += 8 {
		signal = append(signal, slices.Repeat([]int{1}, width)...)
		signal = append(signal, slices.Repeat([]int{2}, width)...)
	}
	for len(signal) < trigger.MaxSignal {
		signal = append(signal, len(signal)%400/200)
	}
	for _, c := range []trigger.Cond{{Kind: "pulse", Min: 200, Max: 201}, {Kind: "pulse", Min: 199, Max: 199}, {Kind: "gap", Min: 1, Max: 255}, {Kind: "gap", A: 1, Min: 255, Max: 255}, {Kind: "idle", Min: 200}, {Kind: "idle", Min: 255}, {Kind: "setup", B: 1, Min: 255}, {Kind: "runt", A: 1}} {
		holds, e := trigger.Holds(2, c, signal)
		sameList(t, "Holds", holds, e, allHolds(c, signal), api.OK)
	}
	holds, e := trigger.Holds(16, full(trigger.Cond{Kind: "enter", Pattern: "1xxxxxxxxxxxxxx0"}), signal)
	sameList(t, "Holds", holds, e, allHolds(trigger.Cond{Kind: "enter", Pattern: "1xxxxxxxxxxxxxx0"}, signal), api.OK)
	holds, e = trigger.Holds(1, full(trigger.Cond{Kind: "idle", Min: 255}), make([]int, 4096))
	same(t, "the sample with the index 254", slices.Index(holds, true), e, 254, api.OK)
}

// P4.2: conditions by the definitions.
func TestHoldsByDefinition(t *testing.T) {
	r := source(4)
	for range 4000 {
		lines := 1 + r.Intn(5)
		c := randomCond(r, lines, 1+r.Intn(4), 1+r.Intn(9))
		signal := randomSignal(r, lines, r.Intn(40))
		holds, e := trigger.Holds(lines, c, signal)
		sameList(t, writtenCond(c), holds, e, allHolds(c, signal), api.OK)
	}
}

// P4.2: the errors of Holds, in their order.
func TestHoldsErrors(t *testing.T) {
	for _, lines := range append(far(), 0, 17, 64) {
		for _, c := range []trigger.Cond{high(0), {}} {
			holds, e := trigger.Holds(lines, c, []int{-1})
			sameList(t, "Holds", holds, e, nil, api.ErrRange)
		}
	}
	holds, e := trigger.Holds(3, trigger.Cond{}, make([]int, 4097))
	sameList(t, "Holds", holds, e, nil, api.ErrKind)
	for _, row := range badSignals(3) {
		holds, e := trigger.Holds(3, high(0), row.signal)
		sameList(t, "Holds", holds, e, nil, row.e)
		times, e := trigger.Triggers(one(3, high(0)), row.signal)
		sameList(t, "Triggers", times, e, nil, row.e)
	}
	for lines := 1; lines <= 16; lines++ {
		holds, e := trigger.Holds(lines, high(lines-1), []int{1<<lines - 1, 0})
		sameList(t, "Holds", holds, e, []bool{true, false}, api.OK)
		holds, e = trigger.Holds(lines, high(lines-1), []int{1 << lines})
		sameList(t, "Holds", holds, e, nil, api.ErrRange)
		times, e := trigger.Triggers(one(lines, high(lines-1)), []int{0, 1<<lines - 1})
		sameList(t, "Triggers", times, e, []int{1}, api.OK)
	}
	holds, e = trigger.Holds(16, high(15), nil)
	sameList(t, "Holds", holds, e, nil, api.OK)
	times, e := trigger.Triggers(one(16, high(15)), nil)
	sameList(t, "Triggers", times, e, nil, api.OK)
}

// signalError is a signal of some lines, and its error.
type signalError struct {
	signal []int
	e      api.Errno
}

// badSignals returns signals with an error.
func badSignals(lines int) []signalError {
	l := []signalError{{make([]int, 4097), api.ErrMany}, {slices.Repeat([]int{-1}, 4097), api.ErrMany}, {append(make([]int, 4095), -1), api.ErrRange}}
	for _, symbol := range append(far(), 1<<lines) {
		l = append(l, signalError{[]int{symbol}, api.ErrRange}, signalError{[]int{0, 1, symbol, 0}, api.ErrRange})
	}
	return l
}

// P4.2: counts and time limits of steps.
func TestTriggers(t *testing.T) {
	for _, row := range []struct {
		source        string
		signal, times []int
	}{
		{"lines 1; high 0;", []int{1, 1, 0, 1}, []int{0, 1, 3}}, {"lines 1; high 0 times 3;", []int{1, 0, 1, 1, 1, 1, 1, 1}, []int{3, 6}}, {"lines 1; high 0; high 0;", []int{1, 1, 1, 1, 1}, []int{1, 3}},
		{"lines 1; high 0; low 0; high 0;", []int{1, 1, 0, 0, 1, 1, 0, 1}, []int{4, 7}},
		// The sample at which a step becomes active is not one of its own; at the limit the step is still active.
		{"lines 2; high 0; high 1 within 1;", []int{3, 0, 2, 1, 2, 1, 0, 2}, []int{4}}, {"lines 2; high 0; high 1 within 3;", []int{1, 0, 0, 2, 1, 0, 0, 0, 2}, []int{3}},
		// The sample after the limit is one of the first step.
		{"lines 2; high 0; high 1 within 2;", []int{1, 0, 0, 1, 2, 0}, []int{4}}, {"lines 2; high 0; high 1 within 2;", []int{1, 0, 0, 3, 2}, []int{4}}, {"lines 2; high 0 times 2; high 1 within 2;", []int{1, 1, 0, 0, 1, 1, 2}, []int{6}}, {"lines 2; high 0 times 2; high 1 within 2;", []int{1, 1, 0, 0, 1, 2, 1, 2}, []int{7}},
		// The count of a step ends with its time.
		{"lines 2; high 0; high 1 times 2 within 3;", []int{1, 2, 0, 2, 1, 2, 0, 0, 2, 1, 2, 2}, []int{3, 11}}, {"lines 2; high 0; high 1; high 0 within 1;", []int{1, 0, 0, 2, 0, 1, 0, 2, 1}, []int{8}},
		// Only the active step has a time limit, from its own beginning on.
		{"lines 2; high 0; high 1 within 2; low 0 times 4;", []int{1, 0, 2, 2, 2, 2, 2, 1}, []int{6}},
		{"lines 1; idle 0 2; rise 0;", []int{0, 0, 1, 1, 0, 1}, []int{2, 5}},
	} {
		times, e := trigger.Triggers(parsed(t, row.source), row.signal)
		sameList(t, row.source, times, e, row.times, api.OK)
	}
}

// P4.2: programs by the definitions.
func TestTriggersByDefinition(t *testing.T) {
	r := source(5)
	fired := 0
	for range 4000 {
		lines := 1 + r.Intn(5)
		p := randomProgram(r, lines, 4, 1+r.Intn(6))
		signal := randomSignal(r, lines, r.Intn(80))
		times, e := trigger.Triggers(p, signal)
		sameList(t, written(p), times, e, triggersOf(p, signal), api.OK)
		fired += len(times)
	}
	if fired < 4000 {
		t.Errorf("only %d triggers", fired)
	}
}

// P4.2: the greatest program, on the longest signal.
func TestTriggersOfTheGreatestProgram(t *testing.T) {
	p := trigger.Program{Lines: 16, Steps: slices.Repeat([]trigger.Step{{Cond: full(trigger.Cond{Kind: "rise", A: 15}), Times: 64}}, 8)}
	signal := slices.Repeat([]int{0, 1 << 15}, 2048)
	times, e := trigger.Triggers(p, signal)
	sameList(t, "Triggers", times, e, []int{1023, 2047, 3071, 4095}, api.OK)
	p.Steps[7].Within = 127
	times, e = trigger.Triggers(p, signal)
	sameList(t, "Triggers within 127", times, e, nil, api.OK)
	p.Steps[7].Within = 128
	times, e = trigger.Triggers(p, signal)
	sameList(t, "Triggers within 128", times, e, []int{1023, 2047, 3071, 4095}, api.OK)
}
