package trigger_test

import (
	"slices"

	"strobe/trigger"
)

// This file has the definitions of the chapter a second time, for whole signals and without automata.

// level reports whether a line is high at a time; before time 0 it has the level of time 0.
func level(signal []int, line, time int) bool {
	return signal[max(time, 0)]/(1<<line)%2 == 1
}

// runFrom returns the time at which the run of a line that contains a time begins.
func runFrom(signal []int, line, time int) int {
	for time > 0 && level(signal, line, time-1) == level(signal, line, time) {
		time--
	}
	return time
}

// changes reports whether a line changes to a level at a time.
func changes(signal []int, line, time int, to bool) bool {
	return level(signal, line, time) == to && level(signal, line, time-1) != to
}

// isPattern reports whether a pattern holds at a time.
func isPattern(signal []int, pattern string, time int) bool {
	for line := range pattern {
		isHigh := level(signal, line, time)
		if pattern[line] == '0' && isHigh || pattern[line] == '1' && !isHigh {
			return false
		}
	}
	return true
}

// endsRun reports whether a run of a level ends before a time, does not begin at time 0, and has from least to most samples.
func endsRun(signal []int, line, time int, isHigh bool, least, most int) bool {
	if !changes(signal, line, time, !isHigh) {
		return false
	}
	from := runFrom(signal, line, time-1)
	return from > 0 && time-from >= least && time-from <= most
}

// holdsAt reports whether a condition holds at a time.
func holdsAt(c trigger.Cond, signal []int, time int) bool {
	switch c.Kind {
	case "high", "low":
		return level(signal, c.A, time) == (c.Kind == "high")
	case "rise", "fall":
		return changes(signal, c.A, time, c.Kind == "rise")
	case "pattern":
		return isPattern(signal, c.Pattern, time)
	case "enter":
		return isPattern(signal, c.Pattern, time) && !isPattern(signal, c.Pattern, time-1)
	case "pulse", "gap":
		return endsRun(signal, c.A, time, c.Kind == "pulse", c.Min, c.Max)
	case "idle":
		return time-runFrom(signal, c.A, time)+1 == c.Min
	case "setup":
		for at := time - c.Min + 1; at <= time; at++ {
			if level(signal, c.A, at) != level(signal, c.A, at-1) {
				return changes(signal, c.B, time, true)
			}
		}
		return false
	case "runt":
		if !endsRun(signal, c.A, time, true, 1, len(signal)) {
			return false
		}
		for at := runFrom(signal, c.A, time-1); at < time; at++ {
			if level(signal, c.B, at) {
				return false
			}
		}
		return true
	}
	held := 0
	for _, element := range c.Kids {
		if holdsAt(element, signal, time) {
			held++
		}
	}
	return c.Kind == "not" && held == 0 || c.Kind == "any" && held > 0 || c.Kind == "all" && held == len(c.Kids)
}

// allHolds reports for each sample whether a condition holds.
func allHolds(c trigger.Cond, signal []int) []bool {
	var holds []bool
	for time := range signal {
		holds = append(holds, holdsAt(c, signal, time))
	}
	return holds
}

// triggersOf returns the times at which a program triggers.
func triggersOf(p trigger.Program, signal []int) []int {
	var times []int
	active, count, since := 0, 0, 0
	for time := range signal {
		if active != 0 && p.Steps[active].Within > 0 && time-since > p.Steps[active].Within {
			active, count, since = 0, 0, time
		}
		if !holdsAt(p.Steps[active].Cond, signal, time) {
			continue
		}
		count++
		if count != p.Steps[active].Times {
			continue
		}
		active, count, since = active+1, 0, time
		if active == len(p.Steps) {
			times = append(times, time)
			active = 0
		}
	}
	return times
}

// minimalOf returns the minimal automaton of an automaton: it joins the states that no signal tells apart,
// and numbers those that it reaches.
func minimalOf(a trigger.Automaton) trigger.Automaton {
	apart := make(map[[2]int]bool)
	for isChanged := true; isChanged; {
		isChanged = false
		for s := range a.Next {
			for o := range s {
				for symbol := range 1 << a.Lines {
					x, y := a.Next[s][symbol], a.Next[o][symbol]
					if !apart[[2]int{s, o}] && (a.Fires[s][symbol] != a.Fires[o][symbol] || apart[[2]int{max(x, y), min(x, y)}]) {
						apart[[2]int{s, o}] = true
						isChanged = true
					}
				}
			}
		}
	}
	m := trigger.Automaton{Lines: a.Lines}
	states := []int{0}
	numberOf := func(state int) int {
		return slices.IndexFunc(states, func(s int) bool { return !apart[[2]int{max(s, state), min(s, state)}] })
	}
	for i := 0; i < len(states); i++ {
		var next []int
		for _, to := range a.Next[states[i]] {
			if numberOf(to) < 0 {
				states = append(states, to)
			}
			next = append(next, numberOf(to))
		}
		m.Next = append(m.Next, next)
		m.Fires = append(m.Fires, slices.Clone(a.Fires[states[i]]))
	}
	return m
}

// runOf returns the times at which an automaton triggers, and its last state.
func runOf(a trigger.Automaton, signal []int) ([]int, int) {
	var times []int
	state := 0
	for time, symbol := range signal {
		if a.Fires[state][symbol] {
			times = append(times, time)
		}
		state = a.Next[state][symbol]
	}
	return times, state
}

// productOf returns the automaton of all pairs of states of two automata that triggers depending on whether they do.
func productOf(a, b trigger.Automaton, fires func(bool, bool) bool) trigger.Automaton {
	p := trigger.Automaton{Lines: a.Lines}
	for s := range a.Next {
		for o := range b.Next {
			next, isFired := make([]int, 1<<a.Lines), make([]bool, 1<<a.Lines)
			for symbol := range next {
				next[symbol] = a.Next[s][symbol]*len(b.Next) + b.Next[o][symbol]
				isFired[symbol] = fires(a.Fires[s][symbol], b.Fires[o][symbol])
			}
			p.Next, p.Fires = append(p.Next, next), append(p.Fires, isFired)
		}
	}
	return p
}

// reachedPairs returns the pairs of states in which two automata are after some signal, in lexicographic order.
func reachedPairs(a, b trigger.Automaton) [][2]int {
	isReached := make([]bool, len(a.Next)*len(b.Next))
	isReached[0] = true
	for isChanged := true; isChanged; {
		isChanged = false
		for i := range isReached {
			for symbol := range 1 << a.Lines {
				to := a.Next[i/len(b.Next)][symbol]*len(b.Next) + b.Next[i%len(b.Next)][symbol]
				if isReached[i] && !isReached[to] {
					isReached[to] = true
					isChanged = true
				}
			}
		}
	}
	var pairs [][2]int
	for i, is := range isReached {
		if is {
			pairs = append(pairs, [2]int{i / len(b.Next), i % len(b.Next)})
		}
	}
	return pairs
}
