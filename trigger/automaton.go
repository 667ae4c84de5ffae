package trigger

import (
	"strobe/api"
	"strobe/common"
)

// read returns the state of an automaton after a symbol, and whether it triggers.
func (a Automaton) read(state, symbol int) (int, bool) {
	return a.Next[state][symbol], a.Fires[state][symbol]
}

// run returns the times at which an automaton triggers, and its state after a signal.
func (a Automaton) run(signal []int) ([]int, int) {
	var times []int
	state := 0
	for t, symbol := range signal {
		var fires bool
		state, fires = a.read(state, symbol)
		if fires {
			times = append(times, t)
		}
	}
	return times, state
}

// Run returns the times at which an automaton triggers.
func Run(a Automaton, signal []int) ([]int, api.Errno) {
	if e := checkInput(a, signal); e != api.OK {
		return nil, e
	}
	times, _ := a.run(signal)
	return times, api.OK
}

// Final returns the state of an automaton after a signal.
func Final(a Automaton, signal []int) (int, api.Errno) {
	if e := checkInput(a, signal); e != api.OK {
		return 0, e
	}
	_, state := a.run(signal)
	return state, api.OK
}

// Minimal returns the minimal automaton that triggers like another one.
func Minimal(a Automaton) (Automaton, api.Errno) {
	if e := CheckAutomaton(a); e != api.OK {
		return Automaton{}, e
	}
	return explored(0, a.Lines, a.read).minimal()
}

// Spacing returns the least distance between two triggers of an automaton.
func Spacing(a Automaton) (int, api.Errno) {
	if e := CheckAutomaton(a); e != api.OK {
		return 0, e
	}
	g := explored(0, a.Lines, a.read)
	waits := g.waits()
	least := 0
	for i, fires := range g.fires {
		if wait := waits[g.next[i]]; fires && wait > 0 && (least == 0 || wait < least) {
			least = wait
		}
	}
	return least, common.ErrorIf(least == 0, api.ErrNone)
}

// waits returns for each state the least number of symbols up to a trigger, or 0 if there is none.
func (g graph) waits() []int {
	waits := make([]int, g.states())
	for i, fires := range g.fires {
		if fires {
			waits[i/g.symbols()] = 1
		}
	}
	// A shortest way to a trigger passes each state at most once.
	for wait := 2; wait <= g.states(); wait++ {
		for i, to := range g.next {
			if from := i / g.symbols(); waits[from] == 0 && waits[to] == wait-1 {
				waits[from] = wait
			}
		}
	}
	return waits
}
