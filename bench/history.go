package bench

import (
	"strobe/api"
	"strobe/common"
)

// history is events in their order, and those of them that count, each with the register after it.
type history struct {
	events   []api.Event
	counting []counted
}

// counted is an event that counts, and the register after it.
type counted struct {
	event api.Event
	after Register
}

// register returns the register after all events.
func (h *history) register() Register {
	if len(h.counting) == 0 {
		return Register{}
	}
	return h.counting[len(h.counting)-1].after
}

// accept adds a valid event, or returns the error with which it is not accepted.
func (h *history) accept(event api.Event) api.Errno {
	if event.Number != len(h.events)+1 {
		return api.ErrOrder
	}
	if e := h.count(event); e != api.OK {
		return e
	}
	h.events = append(h.events, event)
	return api.OK
}

// count changes which events count.
func (h *history) count(event api.Event) api.Errno {
	last := len(h.counting) - 1
	if event.Kind == kindUndo {
		if last < 0 {
			return api.ErrEmpty
		}
		h.counting = h.counting[:last]
		return api.OK
	}
	after, e := h.register().after(event)
	if e != api.OK {
		return e
	}
	h.counting = append(h.counting, counted{event, after})
	return api.OK
}

// replayed returns the history of some events, or the number of the first one that is wrong or not accepted.
func replayed(l []api.Event) (history, int, api.Errno) {
	if e := common.AtMost(l, api.MaxEvents); e != api.OK {
		return history{}, 0, e
	}
	var h history
	for i, event := range l {
		e := CheckEvent(event)
		if e == api.OK {
			e = h.accept(cloned(event))
		}
		if e != api.OK {
			return history{}, i + 1, e
		}
	}
	return h, 0, api.OK
}

// Replay returns the register after some events.
func Replay(l []api.Event) (Register, int, api.Errno) {
	h, wrong, e := replayed(l)
	return h.register(), wrong, e
}

// Accepts returns the error with which an event is not accepted after others, or OK.
func Accepts(l []api.Event, event api.Event) api.Errno {
	h, _, e := replayed(l)
	if e := common.FirstError(e, CheckEvent(event), h.room()); e != api.OK {
		return e
	}
	return h.accept(event)
}

// room returns ErrMany if there can be no further event.
func (h *history) room() api.Errno {
	return common.ErrorIf(len(h.events) >= api.MaxEvents, api.ErrMany)
}

// DelayAt returns the delay of a device on a day.
func DelayAt(l []api.Event, device string, day int) (int, api.Errno) {
	h, _, e := replayed(l)
	if e := common.FirstError(e, checkName(device), common.InRange(day, 0, MaxDay)); e != api.OK {
		return 0, e
	}
	if h.register().device(device) < 0 {
		return 0, api.ErrUnknown
	}
	return h.delayAt(device, day)
}

// delayAt returns the delay of a device of the register on a day.
func (h *history) delayAt(device string, day int) (int, api.Errno) {
	delay, e := 0, api.ErrState
	for _, c := range h.counting {
		if c.event.Values[0] > day || c.event.Names[0] != device {
			continue
		}
		switch c.event.Kind {
		case kindAdd, kindCal:
			delay, e = c.event.Values[1], api.OK
		case kindRetire:
			return 0, api.ErrOver
		}
	}
	return delay, e
}
