package trigger_test

import (
	"slices"
	"strings"
	"testing"

	"strobe/api"
	"strobe/trigger"
)

// P4.3: the example 1 of the chapter.
func TestExampleOfCompile(t *testing.T) {
	a, e := trigger.Compile(parsed(t, "lines 1; rise 0;"))
	sameAutomaton(t, "Compile", a, e, risen(), api.OK)
	a, e = trigger.Compile(parsed(t, "lines 1; high 0;"))
	sameAutomaton(t, "Compile", a, e, trigger.Automaton{Lines: 1, Next: [][]int{{0, 0}}, Fires: [][]bool{{false, true}}}, api.OK)
}

// P4.3: automata that are written out.
func TestCompile(t *testing.T) {
	for source, wanted := range map[string]trigger.Automaton{
		"lines 1; idle 0 2;":                    {Lines: 1, Next: [][]int{{1, 2}, {3, 2}, {1, 4}, {3, 2}, {1, 4}}, Fires: [][]bool{{false, false}, {true, false}, {false, true}, {false, false}, {false, false}}},
		"lines 1; high 0 times 2;":              {Lines: 1, Next: [][]int{{0, 1}, {1, 0}}, Fires: [][]bool{{false, false}, {false, true}}},
		"lines 1; high 0; low 0;":               {Lines: 1, Next: [][]int{{0, 1}, {0, 1}}, Fires: [][]bool{{false, false}, {true, false}}},
		"lines 1; high 0; low 0 within 1;":      {Lines: 1, Next: [][]int{{0, 1}, {0, 0}}, Fires: [][]bool{{false, false}, {true, false}}},
		"lines 2; pattern x1;":                  {Lines: 2, Next: [][]int{{0, 0, 0, 0}}, Fires: [][]bool{{false, false, true, true}}},
		"lines 1; pulse 0 1 1;":                 {Lines: 1, Next: [][]int{{1, 0}, {1, 2}, {1, 0}}, Fires: [][]bool{{false, false}, {false, false}, {true, false}}},
		"lines 1; all(high 0, low 0) times 64;": never(1), "lines 4; enter xxxx;": never(4),
		"lines 1; any(high 0, low 0);": {Lines: 1, Next: [][]int{{0, 0}}, Fires: [][]bool{{true, true}}}, "lines 1; any(high 0, low 0) times 3;": cycle(1, 3), "lines 3; enter xxx; high 0 times 60; idle 0 20 times 2 within 3;": never(3),
	} {
		a, e := trigger.Compile(parsed(t, source))
		sameAutomaton(t, source, a, e, wanted, api.OK)
	}
}

// P4.3: the automaton is minimal, and triggers as the program means, on all short signals and on long ones.
func TestCompileByDefinition(t *testing.T) {
	r := source(6)
	signals := [][][]int{nil, allSignals(1, 9), allSignals(2, 4), allSignals(3, 3), allSignals(4, 2)}
	states := map[int]bool{}
	for range 1500 {
		lines := 1 + r.Intn(4)
		p := randomProgram(r, lines, 3, 1+r.Intn(5))
		a, e := trigger.Compile(p)
		if e == api.ErrMany || sizeOf(p) > trigger.MaxSize {
			continue
		}
		same(t, "CheckAutomaton", e, 0, trigger.CheckAutomaton(a), 0)
		states[len(a.Next)] = true
		if len(a.Next) < 40 {
			sameAutomaton(t, written(p), a, e, minimalOf(a), api.OK)
		}
		for range 20 {
			signal := randomSignal(r, lines, 60)
			times, _ := runOf(a, signal)
			sameList(t, written(p), times, e, triggersOf(p, signal), api.OK)
		}
		for _, signal := range signals[lines] {
			times, _ := runOf(a, signal)
			sameList(t, written(p), times, e, triggersOf(p, signal), api.OK)
		}
	}
	if len(states) < 50 {
		t.Errorf("there are only automata of %d sizes", len(states))
	}
}

// P4.3: as many states as an automaton may have, and one more.
func TestCompileMany(t *testing.T) {
	for _, row := range []struct {
		source string
		states int
		e      api.Errno
	}{
		{"lines 1; pulse 0 250 254;", 256, api.OK}, {"lines 1; pulse 0 250 255;", 0, api.ErrMany}, {"lines 4; gap 3 250 254;", 256, api.OK}, {"lines 4; gap 3 250 255;", 0, api.ErrMany},
		{"lines 1; high 0 times 64; high 0 times 64; high 0 times 64; high 0 times 64;", 256, api.OK}, {"lines 1; high 0 times 64; high 0 times 64; high 0 times 64; high 0 times 64; high 0;", 0, api.ErrMany},
		{"lines 1; high 0; low 0 within 255;", 256, api.OK}, {"lines 1; high 0 times 2; low 0 within 255;", 0, api.ErrMany},
		{"lines 4; idle 0 255 times 15;", 0, api.ErrMany}, {"lines 4; all(idle 0 255, rise 0, low 0) times 15;", 1, api.OK}, {"lines 4; all(idle 0 255, rise 0) times 15;", 1, api.OK},
	} {
		a, e := trigger.Compile(parsed(t, row.source))
		same(t, row.source, len(a.Next), e, row.states, row.e)
		if e == api.OK {
			same(t, "CheckAutomaton", 0, trigger.CheckAutomaton(a), 0, api.OK)
		}
	}
	a, e := trigger.Compile(parsed(t, "lines 1; high 0 times 64; high 0 times 64; high 0 times 64; high 0 times 64;"))
	for state, next := range a.Next {
		sameList(t, "Next", next, e, []int{state, (state + 1) % 256}, api.OK)
		sameList(t, "Fires", a.Fires[state], e, []bool{false, state == 255}, api.OK)
	}
}

// P4.3: as many conditions with a memory as a program within the greatest size may have.
func TestCompileManyMemories(t *testing.T) {
	idle := trigger.Cond{Kind: "idle", Min: 1}
	nine := joined("any", joined("any", slices.Repeat([]trigger.Cond{idle}, 8)...), idle)
	a, e := trigger.Compile(one(1, nine))
	wanted, _ := trigger.Compile(one(1, idle))
	sameAutomaton(t, "Compile", a, e, wanted, api.OK)
	a, e = trigger.Compile(one(1, joined("any", nine, idle)))
	sameAutomaton(t, "Compile", a, e, trigger.Automaton{}, api.ErrLimit)
	idle1, setup, setup1 := trigger.Cond{Kind: "idle", A: 1, Min: 1}, trigger.Cond{Kind: "setup", B: 1, Min: 1}, trigger.Cond{Kind: "setup", A: 1, Min: 1}
	eight := joined("any", joined("all", setup, joined("not", idle1)), joined("all", idle, joined("not", idle1)), joined("all", joined("not", setup1), setup), joined("all", setup1, joined("not", idle)))
	a, e = trigger.Compile(one(2, eight))
	same(t, "Compile", 0, e, 0, api.OK)
	for _, signal := range append(allSignals(2, 5), randomSignal(source(7), 2, 1000)) {
		times, _ := runOf(a, signal)
		sameList(t, "the times", times, e, triggersOf(one(2, eight), signal), api.OK)
	}
}

// P4.3: programs that are too large.
func TestCompileLimits(t *testing.T) {
	for _, source := range []string{
		"lines 5; high 0;", "lines 16; high 0;", "lines 5; all(high 0, low 0);", "lines 4; idle 0 239 times 16;", "lines 4; all(idle 0 239, rise 0, low 0) times 16;", "lines 1; all(pulse 0 1 255, pulse 0 1 255, high 0, low 0);", "lines 1; enter x" + strings.Repeat("; enter x times 64 within 255", 7) + ";",
	} {
		a, e := trigger.Compile(parsed(t, source))
		sameAutomaton(t, source, a, e, trigger.Automaton{}, api.ErrLimit)
	}
	a, e := trigger.Compile(one(17, high(0)))
	sameAutomaton(t, "Compile", a, e, trigger.Automaton{}, api.ErrRange)
	a, e = trigger.Compile(one(5, trigger.Cond{}))
	sameAutomaton(t, "Compile", a, e, trigger.Automaton{}, api.ErrKind)
}

// P4.3: a condition with the most elements, which is evaluated at many states.
func TestCompileFull(t *testing.T) {
	c := full(high(3))
	last := c.Kids[7].Kids[7].Kids
	c.Kids = slices.Clone(c.Kids)
	c.Kids[7].Kids = slices.Clone(c.Kids[7].Kids)
	c.Kids[7].Kids[7].Kids = append(slices.Clone(last[:7]), trigger.Cond{Kind: "idle", Min: 250})
	a, e := trigger.Compile(one(4, c))
	wanted, wantedError := trigger.Compile(parsed(t, "lines 4; any(high 3, idle 0 250);"))
	same(t, "Compile", e, 0, wantedError, 0)
	sameAutomaton(t, "Compile", a, e, wanted, wantedError)
	a, e = trigger.Compile(trigger.Program{Lines: 4, Steps: slices.Repeat([]trigger.Step{{Cond: full(high(3)), Times: 64}}, 4)})
	wanted, wantedError = trigger.Compile(trigger.Program{Lines: 4, Steps: slices.Repeat([]trigger.Step{{Cond: high(3), Times: 64}}, 4)})
	sameAutomaton(t, "Compile", a, e, wanted, wantedError)
	same(t, "the states", len(a.Next), e, 256, api.OK)
}
