package trigger_test

import (
	"math"
	"math/rand"
	"slices"
	"testing"

	"strobe/api"
	"strobe/trigger"
)

// source returns a sequence of random numbers that is the same on each run.
func source(seed int64) *rand.Rand { return rand.New(rand.NewSource(seed)) }

// far returns numbers that are out of every range.
func far() []int { return []int{math.MinInt, math.MinInt + 1, -65536, -1, 1000000000, math.MaxInt} }

// same reports a result or an error that differs from the expected one.
func same[T comparable](t *testing.T, what string, got T, gotError api.Errno, wanted T, wantedError api.Errno) {
	t.Helper()
	if got != wanted || gotError != wantedError {
		t.Errorf("%s: got %v, %d, want %v, %d", what, got, gotError, wanted, wantedError)
	}
}

// sameList reports a list or an error that differs from the expected one; nil and empty lists are equal.
func sameList[T comparable](t *testing.T, what string, got []T, gotError api.Errno, wanted []T, wantedError api.Errno) {
	t.Helper()
	if !slices.Equal(got, wanted) || gotError != wantedError {
		t.Errorf("%s: got %v, %d, want %v, %d", what, got, gotError, wanted, wantedError)
	}
}

// sameAutomaton reports an automaton or an error that differs from the expected one.
func sameAutomaton(t *testing.T, what string, got trigger.Automaton, gotError api.Errno, wanted trigger.Automaton, wantedError api.Errno) {
	t.Helper()
	if !equalAutomata(got, wanted) || gotError != wantedError {
		t.Errorf("%s: got %v, %d, want %v, %d", what, got, gotError, wanted, wantedError)
	}
}

// equalAutomata reports whether two automata have equal states.
func equalAutomata(a, b trigger.Automaton) bool {
	return a.Lines == b.Lines && slices.EqualFunc(a.Next, b.Next, slices.Equal) && slices.EqualFunc(a.Fires, b.Fires, slices.Equal)
}

// equalConds reports whether two conditions are equal; nil and empty lists are.
func equalConds(a, b trigger.Cond) bool {
	return a.Kind == b.Kind && a.A == b.A && a.B == b.B && a.Min == b.Min && a.Max == b.Max && a.Pattern == b.Pattern &&
		slices.EqualFunc(a.Kids, b.Kids, equalConds)
}

// equalPrograms reports whether two programs are equal.
func equalPrograms(a, b trigger.Program) bool {
	return a.Lines == b.Lines && slices.EqualFunc(a.Steps, b.Steps, func(x, y trigger.Step) bool {
		return equalConds(x.Cond, y.Cond) && x.Times == y.Times && x.Within == y.Within
	})
}

// sameProgram reports a program, an offset or an error of Parse that differs from the expected one.
func sameProgram(t *testing.T, source string, wanted trigger.Program, wantedAt int, wantedError api.Errno) {
	t.Helper()
	got, at, e := trigger.Parse(source)
	if !equalPrograms(got, wanted) || at != wantedAt || e != wantedError {
		t.Errorf("Parse %q: got %v, %d, %d, want %v, %d, %d", source, got, at, e, wanted, wantedAt, wantedError)
	}
}

// parsed returns the program with a source.
func parsed(t *testing.T, source string) trigger.Program {
	t.Helper()
	p, at, e := trigger.Parse(source)
	if e != api.OK {
		t.Fatalf("Parse %q: got the error %d at %d", source, e, at)
	}
	return p
}

// compiled returns the automaton of the program with a source.
func compiled(t *testing.T, source string) trigger.Automaton {
	t.Helper()
	a, e := trigger.Compile(parsed(t, source))
	if e != api.OK {
		t.Fatalf("Compile %q: got the error %d", source, e)
	}
	return a
}

// one returns the program with one step that has a condition.
func one(lines int, c trigger.Cond) trigger.Program {
	return trigger.Program{Lines: lines, Steps: []trigger.Step{{Cond: c, Times: 1}}}
}

// joined returns a condition with elements.
func joined(kind string, elements ...trigger.Cond) trigger.Cond {
	return trigger.Cond{Kind: kind, Kids: elements}
}

// high returns the condition that a line is high.
func high(line int) trigger.Cond { return trigger.Cond{Kind: "high", A: line} }

// nested returns a condition of a certain depth, with the innermost element at this depth.
func nested(depth int, innermost trigger.Cond) trigger.Cond {
	for range depth - 1 {
		innermost = joined("not", innermost)
	}
	return innermost
}

// full returns the condition with the most elements, each of which is the same.
func full(element trigger.Cond) trigger.Cond {
	for range trigger.MaxDepth - 1 {
		element = joined("any", slices.Repeat([]trigger.Cond{element}, trigger.MaxKids)...)
	}
	return element
}

// cycle returns an automaton that counts its symbols, and triggers at each n-th one.
func cycle(lines, n int) trigger.Automaton {
	a := trigger.Automaton{Lines: lines}
	for state := range n {
		a.Next = append(a.Next, slices.Repeat([]int{(state + 1) % n}, 1<<lines))
		a.Fires = append(a.Fires, slices.Repeat([]bool{state == n-1}, 1<<lines))
	}
	return a
}

// never returns an automaton that never triggers.
func never(lines int) trigger.Automaton {
	return trigger.Automaton{Lines: lines, Next: [][]int{make([]int, 1<<lines)}, Fires: [][]bool{make([]bool, 1<<lines)}}
}

// risen returns the automaton of the chapter's example 1.
func risen() trigger.Automaton {
	return trigger.Automaton{Lines: 1, Next: [][]int{{1, 0}, {1, 0}}, Fires: [][]bool{{false, false}, {false, true}}}
}

// randomAutomaton returns an automaton of some lines with up to most states.
func randomAutomaton(r *rand.Rand, lines, most int) trigger.Automaton {
	a := trigger.Automaton{Lines: lines}
	states := 1 + r.Intn(most)
	rare := 1 + r.Intn(8)
	for range states {
		next, fires := make([]int, 1<<lines), make([]bool, 1<<lines)
		for symbol := range next {
			next[symbol], fires[symbol] = r.Intn(states), r.Intn(rare) == 0 && r.Intn(3) > 0
		}
		a.Next, a.Fires = append(a.Next, next), append(a.Fires, fires)
	}
	return a
}

// blownUp returns an automaton that triggers like another one, and has further states that trigger like those.
func blownUp(r *rand.Rand, a trigger.Automaton, more int) trigger.Automaton {
	b := trigger.Automaton{Lines: a.Lines}
	like := make([]int, len(a.Next)+more)
	for state := range like {
		like[state] = state
		if state >= len(a.Next) {
			like[state] = r.Intn(len(a.Next))
		}
	}
	for _, original := range like {
		var next []int
		for _, to := range a.Next[original] {
			var equal []int
			for state, o := range like {
				if o == to {
					equal = append(equal, state)
				}
			}
			next = append(next, equal[r.Intn(len(equal))])
		}
		b.Next, b.Fires = append(b.Next, next), append(b.Fires, slices.Clone(a.Fires[original]))
	}
	return b
}

// kindNames returns the names of all kinds.
func kindNames() []string {
	return []string{"high", "low", "rise", "fall", "pattern", "enter", "pulse", "gap", "idle", "setup", "runt", "not", "all", "any"}
}

// randomCond returns a valid condition at a depth, with widths up to most.
func randomCond(r *rand.Rand, lines, depth, most int) trigger.Cond {
	names := kindNames()
	if depth == trigger.MaxDepth {
		names = names[:11]
	}
	c := trigger.Cond{Kind: names[r.Intn(len(names))]}
	if lines == 1 && (c.Kind == "setup" || c.Kind == "runt") {
		c.Kind = "idle"
	}
	if slices.Contains([]string{"pattern", "enter"}, c.Kind) {
		for range lines {
			c.Pattern += string("01x"[r.Intn(3)])
		}
		return c
	}
	if slices.Contains([]string{"not", "all", "any"}, c.Kind) {
		n := 1
		if c.Kind != "not" {
			n += r.Intn(3)
		}
		for range n {
			c.Kids = append(c.Kids, randomCond(r, lines, depth+1, most))
		}
		return c
	}
	c.A = r.Intn(lines)
	if c.Kind == "setup" || c.Kind == "runt" {
		c.B = (c.A + 1 + r.Intn(lines-1)) % lines
	}
	if slices.Contains([]string{"pulse", "gap", "idle", "setup"}, c.Kind) {
		c.Min = 1 + r.Intn(most)
	}
	if c.Kind == "pulse" || c.Kind == "gap" {
		c.Max = c.Min + r.Intn(most-c.Min+1)
	}
	return c
}

// randomProgram returns a valid program, with widths, times and limits up to most.
func randomProgram(r *rand.Rand, lines, steps, most int) trigger.Program {
	p := trigger.Program{Lines: lines}
	for i := range 1 + r.Intn(steps) {
		s := trigger.Step{Cond: randomCond(r, lines, 1+r.Intn(trigger.MaxDepth), most), Times: 1}
		if r.Intn(2) == 0 {
			s.Times = 1 + r.Intn(min(most, trigger.MaxTimes))
		}
		if i > 0 && r.Intn(2) == 0 {
			s.Within = r.Intn(most + 1)
		}
		p.Steps = append(p.Steps, s)
	}
	return p
}

// randomSignal returns a signal of n symbols in which each line keeps its level for a while.
func randomSignal(r *rand.Rand, lines, n int) []int {
	signal := make([]int, n)
	symbol := r.Intn(1 << lines)
	slow := 2 + r.Intn(4)
	for t := range signal {
		for line := range lines {
			if r.Intn(slow) == 0 {
				symbol ^= 1 << line
			}
		}
		signal[t] = symbol
	}
	return signal
}

// allSignals returns all signals of n symbols, in lexicographic order.
func allSignals(lines, n int) [][]int {
	signals := [][]int{nil}
	for range n {
		var longer [][]int
		for _, signal := range signals {
			for symbol := range 1 << lines {
				longer = append(longer, append(slices.Clone(signal), symbol))
			}
		}
		signals = longer
	}
	return signals
}
