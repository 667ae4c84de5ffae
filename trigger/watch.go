package trigger

import (
	"strobe/api"
	"strobe/common"
)

// watch reports whether a condition holds at the next sample. It changes its cells of the memory, so it has to be called
// for each sample.
type watch func(memory []int, m moment) bool

// watcher makes watches of conditions, and counts the cells of memory that they use.
type watcher struct {
	lines int
	cells int
}

// watch returns the watch of a condition.
func (w *watcher) watch(c Cond) watch {
	k := kinds()[c.Kind]
	switch cells := w.cells; {
	case k.join == nil && k.size(c) == 1:
		return func(_ []int, m moment) bool {
			_, holds := k.take(c, 0, m)
			return holds
		}
	case k.join == nil:
		w.cells++
		return func(memory []int, m moment) (holds bool) {
			memory[cells], holds = k.take(c, memory[cells], m)
			return holds
		}
	default:
		elements := common.Transformed(c.Kids, w.watch)
		whole := func(memory []int, m moment) bool {
			return k.join(holdings(elements, memory, m))
		}
		if w.cells > cells || w.lines > MaxBits {
			return whole
		}
		return remembered(whole)
	}
}

// holdings reports for each watch whether its condition holds at the next sample.
func holdings(watches []watch, memory []int, m moment) []bool {
	return common.Transformed(watches, func(holds watch) bool { return holds(memory, m) })
}

// remembered returns the watch of a condition without memory that is evaluated once for each two symbols:
// a condition may have hundreds of elements, and a program tens of thousands of states.
func remembered(whole watch) watch {
	known := map[moment]bool{}
	return func(memory []int, m moment) bool {
		holds, isKnown := known[m]
		if !isKnown {
			holds = whole(memory, m)
			known[m] = holds
		}
		return holds
	}
}

// Holds reports for each sample whether a condition holds.
func Holds(lines int, c Cond, signal []int) ([]bool, api.Errno) {
	if e := checkLines(lines); e != api.OK {
		return nil, e
	}
	if e := common.FirstError(checkCond(c, lines, 1), checkSignal(signal, lines)); e != api.OK {
		return nil, e
	}
	w := watcher{lines: lines}
	holds := w.watch(c)
	memory := make([]int, w.cells)
	results := make([]bool, len(signal))
	for t, m := range moments(signal) {
		results[t] = holds(memory, m)
	}
	return results, api.OK
}
