package trigger_test

import (
	"slices"
	"testing"

	"strobe/api"
	"strobe/trigger"
)

// automatonError is an automaton, and its error.
type automatonError struct {
	a trigger.Automaton
	e api.Errno
}

// badAutomata returns automata with an error, in the order in which the chapter names the errors.
func badAutomata() []automatonError {
	var l []automatonError
	for _, lines := range append(far(), 0, 5, 16, 64) {
		l = append(l, automatonError{trigger.Automaton{Lines: lines}, api.ErrRange}, automatonError{trigger.Automaton{Lines: lines, Next: [][]int{{0, 0}}, Fires: [][]bool{{false, false}}}, api.ErrRange})
	}
	l = append(l, []automatonError{
		{trigger.Automaton{Lines: 1}, api.ErrEmpty}, {trigger.Automaton{Lines: 1, Fires: [][]bool{{false, false}}}, api.ErrEmpty},
		{trigger.Automaton{Lines: 1, Next: make([][]int, 257)}, api.ErrMany}, {cycle(1, 257), api.ErrMany}, {trigger.Automaton{Lines: 1, Next: [][]int{{0, 0}}}, api.ErrShape}, {trigger.Automaton{Lines: 1, Next: [][]int{{9}}, Fires: make([][]bool, 2)}, api.ErrShape},
	}...)
	for _, next := range [][]int{nil, {0}, {0, 0, 0}, {9}, {0, 0, 9}} {
		l = append(l, withRow(next, []bool{false, false}, api.ErrShape)...)
	}
	for _, fires := range [][]bool{nil, {false}, {false, false, false}} {
		l = append(l, withRow([]int{0, 9}, fires, api.ErrShape)...)
	}
	for _, to := range append(far(), 2, 256) {
		l = append(l, withRow([]int{0, to}, []bool{false, false}, api.ErrUnknown)...)
	}
	return l
}

// withRow returns automata of two states, of which the first or the last one has some next states and triggers.
func withRow(next []int, fires []bool, e api.Errno) []automatonError {
	return []automatonError{
		{trigger.Automaton{Lines: 1, Next: [][]int{next, {-1}}, Fires: [][]bool{fires, {true}}}, e},
		{trigger.Automaton{Lines: 1, Next: [][]int{{1, 0}, next}, Fires: [][]bool{{true, true}, fires}}, e},
	}
}

// P4.4: the errors of automata.
func TestErrorsOfAutomata(t *testing.T) {
	for _, row := range badAutomata() {
		same(t, "CheckAutomaton", 0, trigger.CheckAutomaton(row.a), 0, row.e)
		for _, signal := range [][]int{nil, {-1}, make([]int, 4097)} {
			times, e := trigger.Run(row.a, signal)
			sameList(t, "Run", times, e, nil, row.e)
			state, e := trigger.Final(row.a, signal)
			same(t, "Final", state, e, 0, row.e)
		}
		a, e := trigger.Minimal(row.a)
		sameAutomaton(t, "Minimal", a, e, trigger.Automaton{}, row.e)
		signal, e := trigger.Shortest(row.a)
		sameList(t, "Shortest", signal, e, nil, row.e)
		spacing, e := trigger.Spacing(row.a)
		same(t, "Spacing", spacing, e, 0, row.e)
	}
	for lines := 1; lines <= 4; lines++ {
		for _, n := range []int{1, 2, 255, 256} {
			same(t, "CheckAutomaton", 0, trigger.CheckAutomaton(cycle(lines, n)), 0, api.OK)
		}
		for _, row := range badSignals(lines) {
			times, e := trigger.Run(cycle(lines, 2), row.signal)
			sameList(t, "Run", times, e, nil, row.e)
			state, e := trigger.Final(cycle(lines, 2), row.signal)
			same(t, "Final", state, e, 0, row.e)
		}
	}
}

// P4.4: the times and the last states of automata.
func TestRun(t *testing.T) {
	for _, row := range []struct {
		a             trigger.Automaton
		signal, times []int
		final         int
	}{
		{risen(), []int{0, 1, 1, 0, 1}, []int{1, 4}, 0}, {risen(), nil, nil, 0}, {risen(), []int{0}, nil, 1}, {risen(), []int{1, 1, 1}, nil, 0}, {cycle(2, 3), []int{3, 0, 1, 2, 3, 3, 3}, []int{2, 5}, 1}, {cycle(1, 1), []int{0, 1}, []int{0, 1}, 0}, {never(3), []int{7, 0}, nil, 0},
	} {
		times, e := trigger.Run(row.a, row.signal)
		sameList(t, "Run", times, e, row.times, api.OK)
		state, e := trigger.Final(row.a, row.signal)
		same(t, "Final", state, e, row.final, api.OK)
	}
	times, e := trigger.Run(cycle(4, 256), slices.Repeat([]int{15}, 4096))
	same(t, "Run", len(times), e, 16, api.OK)
	r := source(8)
	for range 1000 {
		a := randomAutomaton(r, 1+r.Intn(4), 20)
		signal := randomSignal(r, a.Lines, r.Intn(50))
		wanted, wantedState := runOf(a, signal)
		times, e := trigger.Run(a, signal)
		sameList(t, "Run", times, e, wanted, api.OK)
		state, e := trigger.Final(a, signal)
		same(t, "Final", state, e, wantedState, api.OK)
	}
}

// P4.4: minimal automata that are written out.
func TestMinimal(t *testing.T) {
	no, yes := []bool{false, false}, []bool{false, true}
	for _, row := range []struct{ a, wanted trigger.Automaton }{
		{risen(), risen()}, {cycle(3, 256), cycle(3, 256)}, {never(4), never(4)},
		// The order of the states is that in which they are reached.
		{trigger.Automaton{Lines: 1, Next: [][]int{{2, 1}, {0, 1}, {2, 0}}, Fires: [][]bool{no, yes, no}}, trigger.Automaton{Lines: 1, Next: [][]int{{1, 2}, {1, 0}, {0, 2}}, Fires: [][]bool{no, no, yes}}},
		// States that are not reached are left out, and so are those that trigger like others.
		{trigger.Automaton{Lines: 1, Next: [][]int{{0, 0}, {1, 0}}, Fires: [][]bool{yes, no}}, trigger.Automaton{Lines: 1, Next: [][]int{{0, 0}}, Fires: [][]bool{yes}}},
		{trigger.Automaton{Lines: 1, Next: [][]int{{1, 2}, {2, 1}, {1, 0}}, Fires: [][]bool{yes, yes, yes}}, trigger.Automaton{Lines: 1, Next: [][]int{{0, 0}}, Fires: [][]bool{yes}}},
		{trigger.Automaton{Lines: 1, Next: [][]int{{1, 2}, {3, 3}, {3, 3}, {3, 3}}, Fires: [][]bool{no, yes, yes, no}}, trigger.Automaton{Lines: 1, Next: [][]int{{1, 1}, {2, 2}, {2, 2}}, Fires: [][]bool{no, yes, no}}},
	} {
		a, e := trigger.Minimal(row.a)
		sameAutomaton(t, "Minimal", a, e, row.wanted, api.OK)
	}
	doubled := cycle(1, 256)
	doubled.Fires[127] = []bool{true, true}
	a, e := trigger.Minimal(doubled)
	sameAutomaton(t, "Minimal", a, e, cycle(1, 128), api.OK)
}

// P4.4: minimal automata by the definition, also of automata with many states that trigger alike.
func TestMinimalByDefinition(t *testing.T) {
	r := source(9)
	for range 1500 {
		a := randomAutomaton(r, 1+r.Intn(4), 10)
		if r.Intn(2) == 0 {
			a = blownUp(r, a, r.Intn(15))
		}
		m, e := trigger.Minimal(a)
		sameAutomaton(t, "Minimal", m, e, minimalOf(a), api.OK)
	}
	for range 20 {
		small := randomAutomaton(r, 1+r.Intn(4), 30)
		a, e := trigger.Minimal(blownUp(r, small, 256-len(small.Next)))
		sameAutomaton(t, "Minimal", a, e, minimalOf(small), api.OK)
	}
}

// P4.4: the arguments do not change, and rows of results share no memory with them or with each other.
func TestAutomataShareNothing(t *testing.T) {
	a := risen()
	m, _ := trigger.Minimal(a)
	m.Next[0] = append(m.Next[0], 9)
	m.Fires[0] = append(m.Fires[0], true)
	sameList(t, "Next", m.Next[1], 0, []int{1, 0}, 0)
	sameList(t, "Fires", m.Fires[1], 0, []bool{false, true}, 0)
	m.Next[1][0], m.Fires[1][0] = 9, true
	sameAutomaton(t, "the argument", a, 0, risen(), 0)
}
