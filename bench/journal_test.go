package bench_test

import (
	"math/rand"
	"slices"
	"strings"
	"testing"

	"strobe/api"
	"strobe/bench"
)

// event and the functions after it return events without a number.
func event(kind, name string, values ...int) api.Event {
	return api.Event{Kind: kind, Names: []string{name}, Values: values}
}
func run(frame string, day int, text string) api.Event {
	return api.Event{Kind: "run", Names: []string{frame}, Values: []int{day}, Text: text}
}
func undo() api.Event { return api.Event{Kind: "undo"} }

// P10.5: the events of the example.
func TestExampleEvents(t *testing.T) {
	l := exampleEvents()
	for day, wanted := range map[int]int{1: 5, 8: 5, 9: 7, 99999: 7} {
		for _, events := range [][]api.Event{l[:3], l} {
			delay, e := bench.DelayAt(events, "a", day)
			same(t, "DelayAt", delay, e, wanted, api.OK)
		}
	}
	register, at, e := bench.Replay(l)
	sameAt(t, "Replay", register, at, e, bench.Register{Day: 9, Devices: []bench.Device{{Name: "a", Delay: 7}}, Frames: []bench.Frame{{Name: "s", Pre: 2, Post: 4}}, Runs: []bench.Run{{Frame: "s", Day: 9, Shots: 1}}}, 0, api.OK)
	register, at, e = bench.Replay(nil)
	sameAt(t, "Replay of nothing", register, at, e, bench.Register{}, 0, api.OK)
}

// eventFaults returns what makes an event that has a name and a number of values wrong, in the order of the errors.
func eventFaults(values int) []fault[api.Event] {
	var l []fault[api.Event]
	add := func(e api.Errno, apply func(*api.Event)) { l = append(l, fault[api.Event]{apply, e}) }
	for _, n := range append(far(), 0, 1001) {
		add(api.ErrRange, func(event *api.Event) { event.Number = n })
	}
	for _, kind := range []string{"", "Add", "add ", "x", "device", "arm"} {
		add(api.ErrKind, func(event *api.Event) { event.Kind = kind })
	}
	add(api.ErrShape, func(event *api.Event) { event.Names = nil })
	add(api.ErrShape, func(event *api.Event) { event.Names = append(event.Names, "b") })
	add(api.ErrShape, func(event *api.Event) { event.Values = nil })
	add(api.ErrShape, func(event *api.Event) { event.Values = append(event.Values, 0) })
	for _, name := range badNames() {
		add(api.ErrName, func(event *api.Event) {
			if len(event.Names) > 0 {
				event.Names[0] = name
			}
		})
	}
	for i := range values {
		for _, n := range append(far(), 1000000000) {
			add(api.ErrRange, func(event *api.Event) {
				if i < len(event.Values) {
					event.Values[i] = n
				}
			})
		}
	}
	for _, text := range []string{" ", "x", "trigger ", " trigger", "trigger;trigger", "trigger;  trigger", "trigger; ", "arm  a", "arm 1", "wait 0", "wait 01", "end", "repeat 2", "trigger\n", strings.Repeat("trigger; ", 64) + "trigger", strings.Repeat("x", 5000)} {
		add(api.ErrForm, func(event *api.Event) { event.Text = text })
	}
	return l
}

// P10.5: the first error of an event by itself, and what its limits still permit.
func TestCheckEvent(t *testing.T) {
	for kind, values := range map[string]int{"add": 2, "cal": 2, "retire": 1, "frame": 3, "run": 1} {
		text := ""
		if kind == "run" {
			text = "trigger"
		}
		correct := func() api.Event {
			return api.Event{Number: 1000, Kind: kind, Names: []string{"a"}, Values: slices.Repeat([]int{999999999}, values), Text: text}
		}
		firstFault(t, "CheckEvent "+kind, correct, bench.CheckEvent, eventFaults(values))
		least := correct()
		least.Number, least.Values, least.Names[0] = 1, make([]int, values), strings.Repeat("a", 24)
		isError(t, "CheckEvent "+kind, bench.CheckEvent(least), api.OK)
		for _, other := range []string{"", "trigger"} {
			least.Text = other
			isError(t, "CheckEvent "+kind+" with a text", bench.CheckEvent(least), map[bool]api.Errno{true: api.OK, false: api.ErrForm}[other == text])
		}
	}
	for _, row := range []struct {
		event api.Event
		e     api.Errno
	}{
		{api.Event{Number: 1, Kind: "undo"}, api.OK}, {api.Event{Number: 1, Kind: "undo", Names: []string{}, Values: []int{}}, api.OK}, {api.Event{Number: 1, Kind: "undo", Names: []string{"a"}}, api.ErrShape}, {api.Event{Number: 1, Kind: "undo", Values: []int{1}}, api.ErrShape},
		{api.Event{Number: 1, Kind: "undo", Text: "x"}, api.ErrForm}, {api.Event{}, api.ErrRange}, {api.Event{Number: 1}, api.ErrKind}, {api.Event{Number: 1, Names: []string{"1"}, Values: []int{-1}}, api.ErrKind},
		{api.Event{Number: 7, Kind: "run", Names: []string{"s"}, Values: []int{0}, Text: "arm a; repeat 2; wait 3; trigger; end; disarm a"}, api.OK}, {api.Event{Number: 7, Kind: "run", Names: []string{"s"}, Values: []int{0}, Text: "wait 7"}, api.OK},
	} {
		isError(t, "CheckEvent", bench.CheckEvent(row.event), row.e)
	}
}

// last checks that all events but the last one are accepted, and with which error the last one is not.
func last(t *testing.T, wanted api.Errno, events ...api.Event) {
	t.Helper()
	l := numbered(events...)
	n := len(l) - 1
	_, at, e := bench.Replay(l[:n])
	sameAt(t, "Replay of the others", 0, at, e, 0, 0, api.OK)
	isError(t, "Accepts "+referenceBody(l[n]), bench.Accepts(l[:n], l[n]), wanted)
	register, at, e := bench.Replay(l)
	if wanted == api.OK {
		sameAt(t, "Replay "+referenceBody(l[n]), register, at, e, referenceRegister(l), 0, wanted)
	} else {
		sameAt(t, "Replay "+referenceBody(l[n]), register, at, e, bench.Register{}, n+1, wanted)
	}
	isError(t, "the reference", referenceAccepted(l[:n], l[n]), wanted)
}

// P10.5: the errors with which events are not accepted, and their order.
func TestAccepts(t *testing.T) {
	addA, frameS, retireA := event("add", "a", 5, 9), event("frame", "s", 5, 2, 4), event("retire", "a", 6)
	last(t, api.ErrEmpty, undo())
	last(t, api.ErrEmpty, addA, undo(), undo())
	last(t, api.OK, addA, frameS, undo(), undo())
	for _, other := range []api.Event{event("add", "b", 0, 0), event("cal", "a", 0, 0), event("retire", "a", 0), event("frame", "t", 0, 0, 0), run("s", 0, "wait 1")} {
		for day, wanted := range map[int]api.Errno{100000: api.ErrRange, 999999999: api.ErrRange, 4: api.ErrState, 0: api.ErrState, 5: api.OK, 99999: api.OK} {
			other.Values[0] = day
			last(t, wanted, addA, frameS, other)
			last(t, wanted, addA, frameS, event("frame", "later", 7, 0, 0), undo(), other)
		}
	}
	// The day decides before all others.
	last(t, api.ErrRange, addA, event("add", "a", 100000, 999999999))
	last(t, api.ErrState, addA, event("add", "a", 4, 999999999))
	last(t, api.ErrTwice, addA, event("add", "a", 5, 999999999))
	last(t, api.ErrTwice, addA, retireA, event("add", "a", 6, 1))
	last(t, api.OK, addA, undo(), addA)
	last(t, api.OK, addA, event("frame", "a", 5, 0, 0))
	last(t, api.OK, frameS, event("add", "s", 5, 0))
	last(t, api.ErrTwice, frameS, event("frame", "s", 5, 9999, 9999))
	last(t, api.ErrUnknown, addA, event("cal", "b", 5, 100001))
	last(t, api.ErrUnknown, frameS, event("cal", "s", 5, 1))
	last(t, api.ErrUnknown, frameS, event("retire", "s", 5))
	last(t, api.ErrUnknown, addA, run("a", 5, "trigger"))
	last(t, api.ErrOver, addA, retireA, event("cal", "a", 6, 100001))
	last(t, api.ErrOver, addA, retireA, retireA)
	last(t, api.OK, addA, retireA, undo(), retireA)
	for n, wanted := range map[int]api.Errno{0: api.OK, 100000: api.OK, 100001: api.ErrRange} {
		last(t, wanted, event("add", "a", 0, n))
		last(t, wanted, addA, event("cal", "a", 5, n))
	}
	for n, wanted := range map[int]api.Errno{0: api.OK, 4096: api.OK, 4097: api.ErrRange} {
		last(t, wanted, event("frame", "a", 0, n, 0))
		last(t, wanted, event("frame", "a", 0, 0, n))
	}
}

// P10.5: a register has at most 16 devices, with those that are retired, and 16 frames.
func TestFullRegisters(t *testing.T) {
	var devices, frames []api.Event
	for _, name := range names(16) {
		devices, frames = append(devices, event("add", name, 0, 0)), append(frames, event("frame", name, 0, 0, 0))
	}
	last(t, api.OK, slices.Concat(devices, frames)...)
	for _, delay := range []int{1, 100001} {
		last(t, api.ErrMany, append(slices.Clip(devices), event("add", "x", 0, delay))...)
		last(t, api.ErrMany, append(slices.Clip(devices), event("retire", "i0", 0), event("add", "x", 0, delay))...)
		last(t, api.ErrTwice, append(slices.Clip(devices), event("add", "i9", 0, delay))...)
	}
	last(t, api.ErrMany, append(slices.Clip(frames), event("frame", "x", 0, 9999, 0))...)
	last(t, api.ErrTwice, append(slices.Clip(frames), event("frame", "i9", 0, 9999, 0))...)
	last(t, api.OK, append(slices.Clip(frames), event("add", "x", 0, 0))...)
	last(t, api.OK, append(slices.Clip(devices), undo(), event("add", "x", 0, 0))...)
}

// P10.5: a run is executed with the devices that are not retired, and not accepted if its script fails.
func TestRuns(t *testing.T) {
	start := []api.Event{event("add", "a", 0, 5), event("add", "b", 0, 6), event("add", "c", 0, 7), event("frame", "s", 0, 1, 1), event("retire", "b", 0)}
	for text, wanted := range map[string]api.Errno{
		"arm a; arm c; trigger": api.OK, "wait 100000": api.OK, "arm b": api.ErrUnknown, "arm s": api.ErrUnknown, "arm a; arm a": api.ErrState, "disarm a": api.ErrState, "trigger": api.ErrState,
		"arm a; repeat 100; repeat 10; trigger; end; end": api.OK, "arm a; repeat 100; repeat 10; trigger; end; end; trigger": api.ErrMany, "arm c; arm b; arm x": api.ErrUnknown,
	} {
		last(t, wanted, append(slices.Clip(start), run("s", 0, text))...)
		last(t, wanted, append(slices.Clip(start), run("s", 0, "arm a; trigger; trigger"), run("s", 0, text))...)
	}
	l := append(slices.Clip(start), run("s", 3, "arm c; arm a; trigger; wait 1; trigger"), run("s", 4, "wait 1"), undo(), run("s", 3, "wait 2"))
	register, at, e := bench.Replay(numbered(l...))
	sameAt(t, "Replay", register, at, e, bench.Register{Day: 3, Devices: []bench.Device{{"a", 5, false}, {"b", 6, true}, {"c", 7, false}}, Frames: []bench.Frame{{"s", 1, 1}}, Runs: []bench.Run{{"s", 3, 4}, {"s", 3, 0}}}, 0, api.OK)
}

// P10.5: the delay on a day, and its errors in their order.
func TestDelayAt(t *testing.T) {
	l := numbered(event("add", "b", 2, 1), event("frame", "a", 3, 0, 0), event("add", "a", 3, 5), event("cal", "a", 3, 6), event("cal", "a", 5, 7), event("cal", "b", 5, 2), event("cal", "a", 5, 8), event("cal", "a", 7, 9), undo(), event("cal", "a", 9, 4), event("frame", "f", 11, 0, 0), event("retire", "a", 12))
	for _, row := range []struct {
		device     string
		day, delay int
		e          api.Errno
	}{
		{"a", 0, 0, api.ErrState}, {"a", 2, 0, api.ErrState}, {"a", 3, 6, api.OK}, {"a", 4, 6, api.OK}, {"a", 5, 8, api.OK}, {"a", 8, 8, api.OK}, {"a", 9, 4, api.OK}, {"a", 11, 4, api.OK}, {"a", 12, 0, api.ErrOver}, {"a", 99999, 0, api.ErrOver},
		{"b", 1, 0, api.ErrState}, {"b", 2, 1, api.OK}, {"b", 5, 2, api.OK}, {"b", 99999, 2, api.OK}, {"f", 50, 0, api.ErrUnknown}, {"x", 0, 0, api.ErrUnknown}, {"x", -1, 0, api.ErrRange}, {"a", 100000, 0, api.ErrRange}, {"", -1, 0, api.ErrName}, {"a b", 3, 0, api.ErrName},
	} {
		delay, e := bench.DelayAt(l, row.device, row.day)
		same(t, "DelayAt "+row.device, delay, e, row.delay, row.e)
		delay, e = bench.DelayAt(append(slices.Clip(l), event("add", "z", 12, 0)), row.device, row.day)
		same(t, "DelayAt "+row.device, delay, e, 0, api.ErrRange)
	}
	delay, e := bench.DelayAt(numbered(event("add", "a", 0, 5), undo()), "a", 0)
	same(t, "DelayAt of an undone device", delay, e, 0, api.ErrUnknown)
	delay, e = bench.DelayAt(numbered(event("add", "a", 0, 5), event("retire", "a", 0), undo()), "a", 0)
	same(t, "DelayAt of an undone retirement", delay, e, 5, api.OK)
}

// P10.5: the number of events is limited, and they are numbered from 1 on.
func TestNumbersOfEvents(t *testing.T) {
	var l []api.Event
	for i := range 1001 {
		l = append(l, api.Event{Number: i + 1, Kind: "add", Names: []string{"a"}, Values: []int{0, i}})
		if i%2 == 1 {
			l[i] = api.Event{Number: i + 1, Kind: "undo"}
		}
	}
	register, at, e := bench.Replay(l[:999])
	sameAt(t, "Replay", register, at, e, bench.Register{Devices: []bench.Device{{Name: "a", Delay: 998}}}, 0, api.OK)
	register, at, e = bench.Replay(l[:1000])
	sameAt(t, "Replay", register, at, e, bench.Register{}, 0, api.OK)
	register, at, e = bench.Replay(l)
	sameAt(t, "Replay of 1001 events", register, at, e, bench.Register{}, 0, api.ErrMany)
	delay, e := bench.DelayAt(l, "", -1)
	same(t, "DelayAt of 1001 events", delay, e, 0, api.ErrMany)
	isError(t, "Accepts after 1001 events", bench.Accepts(l, api.Event{}), api.ErrMany)
	isError(t, "Accepts after 999 events", bench.Accepts(l[:999], l[999]), api.OK)
	isError(t, "Accepts after 1000 events", bench.Accepts(l[:1000], l[999]), api.ErrMany)
	isError(t, "Accepts after 1000 events", bench.Accepts(l[:1000], l[1000]), api.ErrRange)
	isError(t, "Accepts of an event with an error", bench.Accepts(l[:1000], api.Event{Number: 3, Kind: "x"}), api.ErrKind)
	isError(t, "Accepts of the same number", bench.Accepts(l[:1], l[0]), api.ErrOrder)
	isError(t, "Accepts of an undo with another number", bench.Accepts(nil, l[1]), api.ErrOrder)
	isError(t, "Accepts after a wrong event", bench.Accepts(l[1:3], l[3]), api.ErrOrder)
	for from, wanted := range map[int]int{1: 1, 2: 1} {
		register, at, e = bench.Replay(l[from:])
		sameAt(t, "Replay of others", register, at, e, bench.Register{}, wanted, map[bool]api.Errno{true: api.ErrOrder}[len(l[from:]) <= 1000])
	}
	register, at, e = bench.Replay([]api.Event{l[0], l[2]})
	sameAt(t, "Replay with a gap", register, at, e, bench.Register{}, 2, api.ErrOrder)
	register, at, e = bench.Replay([]api.Event{l[0], {Number: 0, Kind: "undo"}})
	sameAt(t, "Replay of the number 0", register, at, e, bench.Register{}, 2, api.ErrRange)
}

// anyEvent returns a random event that is accepted by a register more often than not.
func anyEvent(r *rand.Rand, number int, register bench.Register) api.Event {
	day := register.Day + pick(r, 0, 0, 1, r.Intn(3))
	if r.Intn(15) == 0 {
		day = pick(r, max(0, register.Day-1), r.Intn(5), 99999, 100000)
	}
	device, frame := pick(r, "a", "b", "c", "s", "d1"), pick(r, "a", "s", "f", "g")
	e := api.Event{Number: number, Kind: pick(r, "add", "cal", "cal", "retire", "frame", "run", "run", "undo")}
	switch e.Kind {
	case "add", "cal":
		e.Names, e.Values = []string{device}, []int{day, pick(r, 0, 5, r.Intn(9), 100000, r.Intn(120000))}
	case "retire":
		e.Names, e.Values = []string{device}, []int{day}
	case "frame":
		e.Names, e.Values = []string{frame}, []int{day, pick(r, 0, 4096, 4097, r.Intn(9)), r.Intn(5)}
	case "run":
		e.Names, e.Values = []string{frame}, []int{day}
		var known []string
		for _, d := range register.Devices {
			if !d.Retired || r.Intn(9) == 0 {
				known = append(known, d.Name)
			}
		}
		e.Text = referenceSource(append([]bench.Command{wait(1)}, anyScript(r, known, 1)...))
	}
	if r.Intn(40) == 0 {
		pick(r, eventFaults(len(e.Values))...).apply(&e)
	}
	if r.Intn(40) == 0 {
		e.Number += pick(r, -1, 1)
	}
	return e
}

// anyJournal returns random events that are accepted, and calls a function with each event that is tried after those before it.
func anyJournal(r *rand.Rand, n int, tried func([]api.Event, api.Event)) []api.Event {
	var l []api.Event
	for range n {
		e := anyEvent(r, len(l)+1, referenceRegister(l))
		tried(l, e)
		if referenceAccepts(l, e) == api.OK {
			l = append(slices.Clip(l), e)
		}
	}
	return l
}

// P10.5: random events have the results of the definition.
func TestJournals(t *testing.T) {
	r := source(8)
	found := map[api.Errno]int{}
	for range 200 {
		anyJournal(r, 60, func(l []api.Event, e api.Event) {
			wanted := referenceAccepts(l, e)
			isError(t, "Accepts "+referenceBody(e), bench.Accepts(l, e), wanted)
			isError(t, "CheckEvent "+referenceBody(e), bench.CheckEvent(e), referenceCheckEvent(e))
			found[wanted]++
			all := append(slices.Clip(l), e, undo())
			wantedRegister, wantedAt, wantedError := referenceReplay(all)
			register, at, problem := bench.Replay(all)
			sameAt(t, "Replay", register, at, problem, wantedRegister, wantedAt, wantedError)
			device, day := pick(r, "a", "b", "c", "s", "x", "1"), pick(r, register.Day, r.Intn(8), 99999, -1)
			wantedDelay, wantedError := referenceDelayAt(l, device, day)
			delay, problem := bench.DelayAt(l, device, day)
			same(t, "DelayAt", delay, problem, wantedDelay, wantedError)
		})
	}
	decided(t, "Accepts", found, api.OK, api.ErrOrder, api.ErrEmpty, api.ErrRange, api.ErrState, api.ErrTwice, api.ErrUnknown, api.ErrOver, api.ErrForm)
}

// DOC.md, Memory: events are not changed, and registers share no memory.
func TestEventsAreKept(t *testing.T) {
	l := exampleEvents()
	register, _, _ := bench.Replay(l)
	register.Devices[0].Delay, register.Frames[0].Pre = 99, 99
	again, _, _ := bench.Replay(l)
	same(t, "the events", l, api.OK, exampleEvents(), api.OK)
	same(t, "the register", again, api.OK, referenceRegister(l), api.OK)
}
