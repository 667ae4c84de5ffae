package trigger

import (
	"strobe/api"
	"strobe/common"
)

// place is how far a program has run: its active step, the count of that step, and the samples since it became active,
// which are counted only if the step has a time limit.
type place struct {
	step, count, elapsed int
}

// runner runs a program: it has the watches of its steps, and the number of cells of memory that they use.
type runner struct {
	program Program
	watches []watch
	cells   int
}

// newRunner returns the runner of a valid program.
func newRunner(p Program) runner {
	w := watcher{lines: p.Lines}
	watches := common.Transformed(p.Steps, func(s Step) watch { return w.watch(s.Cond) })
	return runner{p, watches, w.cells}
}

// take returns the place after the next sample, and whether the program triggers there.
func (r runner) take(memory []int, at place, m moment) (place, bool) {
	// The conditions of all steps have to see the sample, not only that of the active one.
	return r.program.advanced(at, holdings(r.watches, memory, m))
}

// advanced returns the place after the next sample, given at which steps the condition holds there,
// and whether the program triggers.
func (p Program) advanced(at place, holds []bool) (place, bool) {
	if within := p.Steps[at.step].Within; within > 0 {
		at.elapsed++
		if at.elapsed > within {
			at = place{}
		}
	}
	if !holds[at.step] {
		return at, false
	}
	at.count++
	if at.count < p.Steps[at.step].Times {
		return at, false
	}
	if at.step+1 < len(p.Steps) {
		return place{step: at.step + 1}, false
	}
	return place{}, true
}

// Size returns the size of a program.
func Size(p Program) (int, api.Errno) {
	if e := CheckProgram(p); e != api.OK {
		return 0, e
	}
	size, places := 1<<p.Lines+1, 0
	for _, s := range p.Steps {
		size = product(size, sizeOf(s.Cond))
		places += s.Times * (s.Within + 1)
	}
	return product(size, places), api.OK
}

// Triggers returns the times at which a program triggers.
func Triggers(p Program, signal []int) ([]int, api.Errno) {
	if e := CheckProgram(p); e != api.OK {
		return nil, e
	}
	if e := checkSignal(signal, p.Lines); e != api.OK {
		return nil, e
	}
	r := newRunner(p)
	memory := make([]int, r.cells)
	var times []int
	var at place
	for t, m := range moments(signal) {
		var fires bool
		at, fires = r.take(memory, at, m)
		if fires {
			times = append(times, t)
		}
	}
	return times, api.OK
}
