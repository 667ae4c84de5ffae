package bench

import (
	"slices"

	"strobe/api"
	"strobe/common"
)

// Shots returns the shots that a script produces.
func Shots(s Setup, l []Command) ([]Shot, api.Errno) {
	if e := CheckSetup(s); e != api.OK {
		return nil, e
	}
	if e := CheckScript(l); e != api.OK {
		return nil, e
	}
	x := start(s)
	if e := x.run(l); e != api.OK {
		return nil, e
	}
	return x.shots, api.OK
}

// execution is the state of the instruments of a set-up while a script is executed.
type execution struct {
	setup Setup
	time  int
	units []unit
	shots []Shot
}

// unit is the state of the instrument that has the same index in the set-up.
type unit struct {
	isArmed bool
	shots   int
}

// start returns the state before the first script.
func start(s Setup) execution {
	s.Instruments = slices.Clone(s.Instruments)
	return execution{setup: s, units: make([]unit, len(s.Instruments))}
}

// copied returns a state between two scripts, which has no shots, with a memory of its own.
func (x execution) copied() execution {
	x.units = slices.Clone(x.units)
	return x
}

// run executes a valid script up to the first command that fails, and returns its error.
func (x *execution) run(l []Command) api.Errno {
	known := operations()
	for c := range executed(l) {
		if e := known[c.Op].execute(x, c); e != api.OK {
			return e
		}
	}
	return api.OK
}

// arm arms an instrument that is not armed.
func (x *execution) arm(c Command) api.Errno {
	return x.set(c.Name, true)
}

// disarm disarms an instrument that is armed.
func (x *execution) disarm(c Command) api.Errno {
	return x.set(c.Name, false)
}

// set arms or disarms an instrument, if that changes it.
func (x *execution) set(name string, isArmed bool) api.Errno {
	i := indexOf(x.setup.Instruments, name, Instrument.name)
	if i < 0 {
		return api.ErrUnknown
	}
	if x.units[i].isArmed == isArmed {
		return api.ErrState
	}
	x.units[i].isArmed = isArmed
	return api.OK
}

// wait lets time pass.
func (x *execution) wait(c Command) api.Errno {
	if x.time+c.Count > api.MaxNumber {
		return api.ErrRange
	}
	x.time += c.Count
	return api.OK
}

// trigger produces a shot for each armed instrument.
func (x *execution) trigger(Command) api.Errno {
	armed := 0
	for _, u := range x.units {
		if u.isArmed {
			armed++
		}
	}
	if e := common.FirstError(common.ErrorIf(armed == 0, api.ErrState), common.ErrorIf(len(x.shots)+armed > MaxShots, api.ErrMany)); e != api.OK {
		return e
	}
	for i := range x.units {
		if x.units[i].isArmed {
			x.units[i].shots++
			x.shots = append(x.shots, x.shot(i))
		}
	}
	return api.OK
}

// shot returns the latest shot of an instrument, at the current time.
func (x *execution) shot(index int) Shot {
	instrument := x.setup.Instruments[index]
	own := x.time + instrument.Delay
	return Shot{instrument.Name, x.units[index].shots, x.time, own - x.setup.Pre, own + x.setup.Post}
}
