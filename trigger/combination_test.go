package trigger_test

import (
	"slices"
	"testing"

	"strobe/api"
	"strobe/trigger"
)

func or(x, y bool) bool  { return x || y }
func and(x, y bool) bool { return x && y }

// P4.6: the example 4 of the chapter.
func TestExampleOfCombinations(t *testing.T) {
	rise, high := compiled(t, "lines 1; rise 0;"), compiled(t, "lines 1; high 0;")
	both, e := trigger.Both(rise, high)
	sameAutomaton(t, "Both", both, e, rise, api.OK)
	either, e := trigger.Either(rise, high)
	sameAutomaton(t, "Either", either, e, high, api.OK)
	signal, e := trigger.Shortest(rise)
	sameList(t, "Shortest", signal, e, []int{0, 1}, api.OK)
	spacing, e := trigger.Spacing(rise)
	same(t, "Spacing of rise", spacing, e, 2, api.OK)
	spacing, e = trigger.Spacing(high)
	same(t, "Spacing of high", spacing, e, 1, api.OK)
}

// P4.6: combinations of programs are those of their conditions.
func TestCombinations(t *testing.T) {
	for _, row := range []struct{ a, b, either, both string }{
		{"high 0", "low 0", "enter xx; high 0", ""}, {"high 0", "high 1", "any(high 0, high 1)", "pattern 11"}, {"rise 0", "rise 1", "any(rise 0, rise 1)", "all(rise 1, rise 0)"}, {"pulse 0 2 3", "pulse 0 3 5", "pulse 0 2 5", "pulse 0 3 3"}, {"runt 0 1", "pulse 0 1 2", "any(runt 0 1, pulse 0 1 2)", "all(runt 0 1, pulse 0 1 2)"}, {"idle 0 3", "idle 1 2", "any(idle 0 3, idle 1 2)", "all(idle 1 2, idle 0 3)"},
	} {
		a, b := compiled(t, "lines 2; "+row.a+";"), compiled(t, "lines 2; "+row.b+";")
		wantedEither, wantedBoth := cycle(2, 1), never(2)
		if row.both != "" {
			wantedEither, wantedBoth = compiled(t, "lines 2; "+row.either+";"), compiled(t, "lines 2; "+row.both+";")
		}
		either, e := trigger.Either(a, b)
		sameAutomaton(t, "Either "+row.a+row.b, either, e, wantedEither, api.OK)
		both, e := trigger.Both(a, b)
		sameAutomaton(t, "Both "+row.a+row.b, both, e, wantedBoth, api.OK)
	}
}

// P4.6: combinations by the definition.
func TestCombinationsByDefinition(t *testing.T) {
	r := source(12)
	for range 800 {
		lines := 1 + r.Intn(4)
		a, b := randomAutomaton(r, lines, 6), randomAutomaton(r, lines, 6)
		either, e := trigger.Either(a, b)
		sameAutomaton(t, "Either", either, e, minimalOf(productOf(a, b, or)), api.OK)
		both, e := trigger.Both(a, b)
		sameAutomaton(t, "Both", both, e, minimalOf(productOf(a, b, and)), api.OK)
	}
}

// P4.6: as many states as an automaton may have, and more.
func TestManyCombinations(t *testing.T) {
	for _, row := range []struct {
		a, b, states int
		e            api.Errno
	}{
		{256, 256, 256, api.OK}, {256, 2, 256, api.OK}, {15, 17, 255, api.OK}, {2, 127, 254, api.OK}, {257 / 3, 3, 255, api.OK}, {16, 17, 0, api.ErrMany}, {255, 256, 0, api.ErrMany}, {256, 3, 0, api.ErrMany}, {256, 255, 0, api.ErrMany},
	} {
		for _, lines := range []int{1, 4} {
			a, b := cycle(lines, row.a), cycle(lines, row.b)
			both, e := trigger.Both(a, b)
			same(t, "Both", len(both.Next), e, row.states, row.e)
			if e == api.OK {
				sameAutomaton(t, "Both", both, e, cycle(lines, row.states), api.OK)
			}
			// A cycle that divides the other one adds nothing.
			wanted := row.states
			if row.a%row.b == 0 {
				wanted = row.b
			}
			either, e := trigger.Either(a, b)
			same(t, "Either", len(either.Next), e, wanted, row.e)
		}
	}
	// All pairs of states are reached, but few of them are apart.
	a, b := cycle(1, 255), cycle(1, 256)
	b.Fires = slices.Repeat([][]bool{{true, true}}, 256)
	either, e := trigger.Either(a, b)
	sameAutomaton(t, "Either", either, e, cycle(1, 1), api.OK)
	both, e := trigger.Both(a, b)
	sameAutomaton(t, "Both", both, e, cycle(1, 255), api.OK)
}

// P4.6: the shortest signals.
func TestShortest(t *testing.T) {
	for source, wanted := range map[string][]int{
		"lines 1; low 0;": {0}, "lines 1; high 0;": {1}, "lines 1; fall 0;": {1, 0}, "lines 2; enter 1x;": {0, 1}, "lines 2; enter x1;": {0, 2}, "lines 2; all(rise 1, low 0);": {0, 2}, "lines 2; all(fall 1, high 0);": {2, 1}, "lines 1; idle 0 4;": {0, 0, 0, 0}, "lines 1; pulse 0 3 9;": {0, 1, 1, 1, 0}, "lines 2; runt 1 0;": {0, 2, 0}, "lines 2; setup 0 1 1;": {0, 3}, "lines 2; setup 0 1 2;": {0, 3}, "lines 3; rise 2; low 2; high 1 times 2;": {0, 4, 0, 2, 2},
		"lines 4; pattern 1111 times 20;": slices.Repeat([]int{15}, 20),
	} {
		signal, e := trigger.Shortest(compiled(t, source))
		sameList(t, "Shortest "+source, signal, e, wanted, api.OK)
	}
	for lines := 1; lines <= 4; lines++ {
		signal, e := trigger.Shortest(never(lines))
		sameList(t, "Shortest", signal, e, nil, api.ErrNone)
		signal, e = trigger.Shortest(cycle(lines, 256))
		sameList(t, "Shortest", signal, e, make([]int, 256), api.OK)
	}
	unreached := trigger.Automaton{Lines: 1, Next: [][]int{{0, 0}, {0, 0}}, Fires: [][]bool{{false, false}, {true, true}}}
	signal, e := trigger.Shortest(unreached)
	sameList(t, "Shortest", signal, e, nil, api.ErrNone)
}

// P4.6: the least distances of triggers.
func TestSpacing(t *testing.T) {
	for source, wanted := range map[string]int{
		"lines 1; low 0;": 1, "lines 1; fall 0;": 2, "lines 2; any(fall 0, fall 1);": 1, "lines 2; enter 1x;": 2, "lines 1; idle 0 1;": 1, "lines 1; idle 0 4;": 4, "lines 1; pulse 0 3 9;": 4, "lines 1; gap 0 1 1;": 2, "lines 1; high 0 times 7;": 7, "lines 1; rise 0; fall 0;": 2, "lines 1; rise 0; fall 0; rise 0;": 4, "lines 2; runt 1 0;": 2,
	} {
		spacing, e := trigger.Spacing(compiled(t, source))
		same(t, "Spacing "+source, spacing, e, wanted, api.OK)
	}
	no, yes := []bool{false, false}, []bool{true, false}
	for _, row := range []struct {
		a       trigger.Automaton
		spacing int
		e       api.Errno
	}{
		{never(1), 0, api.ErrNone}, {cycle(4, 256), 256, api.OK}, {trigger.Automaton{Lines: 1, Next: [][]int{{1, 0}, {1, 1}}, Fires: [][]bool{yes, no}}, 0, api.ErrNone},
		// Another trigger may only be near in a state that is not reached.
		{trigger.Automaton{Lines: 1, Next: [][]int{{1, 1}, {0, 1}, {2, 2}}, Fires: [][]bool{no, yes, yes}}, 2, api.OK},
		// The nearest trigger comes after one that is not the first.
		{trigger.Automaton{Lines: 1, Next: [][]int{{1, 1}, {2, 2}, {3, 3}, {3, 3}}, Fires: [][]bool{yes, no, yes, yes}}, 1, api.OK},
		{trigger.Automaton{Lines: 1, Next: [][]int{{1, 1}, {2, 2}, {3, 3}, {3, 3}}, Fires: [][]bool{yes, no, yes, no}}, 2, api.OK},
	} {
		spacing, e := trigger.Spacing(row.a)
		same(t, "Spacing", spacing, e, row.spacing, row.e)
	}
}

// leastDistance returns the least distance of two triggers on all signals of n symbols, or 0.
func leastDistance(a trigger.Automaton, n int) int {
	least := 0
	for _, signal := range allSignals(a.Lines, n) {
		times, _ := runOf(a, signal)
		for i := 1; i < len(times); i++ {
			if d := times[i] - times[i-1]; least == 0 || d < least {
				least = d
			}
		}
	}
	return least
}

// P4.6: shortest signals and spacings by the definitions.
func TestSignalsByDefinition(t *testing.T) {
	r := source(13)
	spacings := map[int]int{}
	for range 400 {
		a := randomAutomaton(r, 1, 5)
		var wanted []int
		wantedError := api.ErrNone
		for n := 1; n <= 5 && wanted == nil; n++ {
			for _, signal := range allSignals(1, n) {
				if times, _ := runOf(a, signal); wanted == nil && slices.Contains(times, n-1) {
					wanted, wantedError = signal, api.OK
				}
			}
		}
		signal, e := trigger.Shortest(a)
		sameList(t, "Shortest", signal, e, wanted, wantedError)
		// A state is reached by fewer symbols than there are states, and a trigger follows by at most as many.
		least := leastDistance(a, 10)
		wantedError = api.OK
		if least == 0 {
			wantedError = api.ErrNone
		}
		spacing, e := trigger.Spacing(a)
		same(t, "Spacing", spacing, e, least, wantedError)
		spacings[least]++
	}
	if len(spacings) < 4 {
		t.Errorf("there are only the spacings %v", spacings)
	}
}
