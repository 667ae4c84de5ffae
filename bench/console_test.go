package bench_test

import (
	"fmt"
	"math/rand"
	"slices"
	"strings"
	"testing"

	"strobe/api"
	"strobe/bench"
)

// opened returns the session with a log.
func opened(t *testing.T, log string) *bench.Session {
	t.Helper()
	s, e := bench.Open(log)
	if s == nil || e != api.OK {
		t.Fatalf("Open %q: got %v, %d", log, s, e)
	}
	return s
}

// do checks the result of a line.
func do(t *testing.T, s *bench.Session, line, wanted string, wantedError api.Errno) {
	t.Helper()
	result, e := s.Do(line)
	same(t, fmt.Sprintf("Do %q", line), result, e, wanted, wantedError)
}

// P10.6: the lines of the example, and the log that they leave.
func TestExampleSession(t *testing.T) {
	s := opened(t, "")
	same(t, "Log", s.Log(), api.OK, "", api.OK)
	same(t, "Events", s.Events(), api.OK, nil, api.OK)
	do(t, s, "runs", "none", api.OK)
	do(t, s, "device a", "", api.ErrUnknown)
	for i, line := range []string{"add a 1 5", "frame s 1 2 4", "cal a 9 7", "run s 9 arm a; trigger"} {
		do(t, s, line, fmt.Sprint("done ", i+1), api.OK)
	}
	do(t, s, "device a", "7", api.OK)
	do(t, s, "runs", "s.9.1", api.OK)
	same(t, "Events", s.Events(), api.OK, exampleEvents(), api.OK)
	same(t, "Log", s.Log(), api.OK, logOf(exampleEvents()...), api.OK)
	do(t, s, "run s 10 wait 1", "done 5", api.OK)
	do(t, s, "retire a 10", "done 6", api.OK)
	do(t, s, "device a", "7 retired", api.OK)
	do(t, s, "runs", "s.9.1 s.10.0", api.OK)
	do(t, s, "undo", "done 7", api.OK)
	do(t, s, "device a", "7", api.OK)
	again := opened(t, s.Log())
	do(t, again, "runs", "s.9.1 s.10.0", api.OK)
	same(t, "Events", again.Events(), api.OK, s.Events(), api.OK)
}

// P10.6: logs that cannot be opened, and torn ones that can.
func TestOpen(t *testing.T) {
	log := logOf(exampleEvents()...)
	for rest, wanted := range map[string]api.Errno{
		"\n": api.ErrSyntax, "5 undo#1234567\n": api.ErrCheck, record("6 undo"): api.ErrOrder, record("5 add a 9 5"): api.ErrTwice, record("5 cal a 8 5"): api.ErrState, record("5 cal a 9 100001"): api.ErrRange, record("5 run s 9 arm x"): api.ErrUnknown,
		record("5 undo") + "\n": api.ErrSyntax, record("5 add a 9 5") + "x": api.ErrTwice, record("5 add a 9 5") + "\n": api.ErrSyntax, strings.Repeat("x", 1000001): api.ErrLong,
	} {
		s, e := bench.Open(log + rest)
		if s != nil || e != wanted {
			t.Errorf("Open with %.30q: got %v, %d, want %d", rest, s, e, wanted)
		}
	}
	for at := range len(log) + 1 {
		s := opened(t, log[:at])
		events, length, _ := referenceRecover(log[:at])
		same(t, "Events", s.Events(), api.OK, events, api.OK)
		same(t, "Log", s.Log(), api.OK, log[:length], api.OK)
		do(t, s, "add z 99999 3", fmt.Sprint("done ", len(events)+1), api.OK)
		same(t, "Log", s.Log(), api.OK, log[:length]+record(fmt.Sprint(len(events)+1, " add z 99999 3")), api.OK)
	}
}

// P10.6: lines with an error change nothing.
func TestLineErrors(t *testing.T) {
	s := opened(t, logOf(exampleEvents()...))
	for line, wanted := range map[string]api.Errno{
		"": api.ErrSyntax, " ": api.ErrKind, " add b 9 1": api.ErrKind, "x": api.ErrKind, "Add b 9 1": api.ErrKind, "add\tb 9 1": api.ErrKind, "add\n": api.ErrKind, "devices": api.ErrKind, "runs\n": api.ErrKind, "5 undo": api.ErrKind, "trigger": api.ErrKind,
		"add": api.ErrSyntax, "add b": api.ErrSyntax, "add b 9": api.ErrSyntax, "add b 9 1 ": api.ErrSyntax, "add b 9 1 1": api.ErrSyntax, "add  b 9 1": api.ErrSyntax, "add  9 1": api.ErrSyntax, "add b 9 01": api.ErrSyntax, "add b 9 -1": api.ErrSyntax, "add b 9 +1": api.ErrSyntax, "add b 9 x": api.ErrSyntax,
		"add b 9 1000000000": api.ErrSyntax, "add b 9 1\n": api.ErrSyntax, "add 1 9": api.ErrSyntax, "undo ": api.ErrSyntax, "undo 1": api.ErrSyntax, "frame t 9 1": api.ErrSyntax, "retire": api.ErrSyntax, "retire a 9 1": api.ErrSyntax, "cal a 9": api.ErrSyntax,
		"run": api.ErrSyntax, "run s": api.ErrSyntax, "run s 9": api.ErrSyntax, "run s x trigger": api.ErrSyntax, "run  9 trigger": api.ErrSyntax, "run s 9 ": api.ErrForm, "run s 9  trigger": api.ErrForm, "run s 9 trigger\n": api.ErrForm, "run s 9 x": api.ErrForm, "run s 9 arm  a": api.ErrForm, "run s 9 wait 0": api.ErrForm,
		"add 1 9 1": api.ErrName, "add b\n 9 1": api.ErrName, "add b# 9 1": api.ErrName, "run 1 9 ": api.ErrName, "add a 100000 1": api.ErrRange, "add a 8 1": api.ErrState, "add a 9 999999999": api.ErrTwice, "add b 9 100001": api.ErrRange, "cal b 9 1": api.ErrUnknown, "run t 9 trigger": api.ErrUnknown, "run s 9 trigger": api.ErrState, "run s 9 arm b": api.ErrUnknown,
		"device": api.ErrSyntax, "device ": api.ErrSyntax, "device  a": api.ErrSyntax, "device a ": api.ErrSyntax, "device a b": api.ErrSyntax, "device b": api.ErrUnknown, "device s": api.ErrUnknown, "device a\n": api.ErrUnknown, "device 1": api.ErrUnknown, "runs ": api.ErrSyntax, "runs a": api.ErrSyntax,
		"device " + strings.Repeat("a", 4089): api.ErrUnknown, "device " + strings.Repeat("a", 4090): api.ErrLong, strings.Repeat(" ", 4096): api.ErrKind, strings.Repeat(" ", 4097): api.ErrLong, "undo" + strings.Repeat(" ", 4092): api.ErrSyntax,
	} {
		do(t, s, line, "", wanted)
		_, _, e := referenceDo(exampleEvents(), line)
		isError(t, "the reference", e, wanted)
		same(t, "Log", s.Log(), api.OK, logOf(exampleEvents()...), api.OK)
	}
	do(t, s, "runs", "s.9.1", api.OK)
	do(t, s, "device a", "7", api.OK)
	do(t, opened(t, ""), "undo", "", api.ErrEmpty)
}

// P10.6: a nil session, and one that Open did not make.
func TestNilSessions(t *testing.T) {
	var none *bench.Session
	for _, line := range []string{"", "x", "runs", "undo", strings.Repeat(" ", 5000)} {
		do(t, none, line, "", api.ErrState)
	}
	same(t, "Events", none.Events(), api.OK, nil, api.OK)
	same(t, "Log", none.Log(), api.OK, "", api.OK)
	var zero bench.Session
	do(t, &zero, "runs", "none", api.OK)
	do(t, &zero, "undo", "", api.ErrEmpty)
	do(t, &zero, "add a 0 0", "done 1", api.OK)
	same(t, "Log", zero.Log(), api.OK, record("1 add a 0 0"), api.OK)
}

// P10.6: a session has at most 1000 events, but its log has no limit.
func TestFullSessions(t *testing.T) {
	s := opened(t, "")
	do(t, s, "frame s 0 0 0", "done 1", api.OK)
	long := strings.Repeat("wait 100000; ", 63) + "wait 100000"
	for i := range 998 {
		do(t, s, "run s 0 "+long, fmt.Sprint("done ", i+2), api.OK)
	}
	do(t, s, "run s 0 wait 1 ", "", api.ErrForm)
	do(t, s, "undo", "done 1000", api.OK)
	for line, wanted := range map[string]api.Errno{"undo": api.ErrMany, "add 1 0 0": api.ErrMany, "run s 0 ": api.ErrMany, "add a 100000 0": api.ErrMany, "undo ": api.ErrSyntax, "add": api.ErrSyntax, "device a": api.ErrUnknown, "x": api.ErrKind} {
		do(t, s, line, "", wanted)
	}
	if n := len(s.Events()); n != 1000 {
		t.Errorf("there are %d events", n)
	}
	do(t, s, "runs", strings.TrimSuffix(strings.Repeat("s.0.0 ", 997), " "), api.OK)
	same(t, "Log", s.Log(), api.OK, logOf(s.Events()...), api.OK)
	if len(s.Log()) > 1000000 {
		t.Error("the log is short enough to be opened")
	}
}

// P10.6: the events of a session share no memory with it.
func TestEventsAreCopies(t *testing.T) {
	s := opened(t, logOf(exampleEvents()...))
	events := s.Events()
	for i := range events {
		events[i].Names[0], events[i].Values[0] = "x", 99
	}
	same(t, "Events", s.Events(), api.OK, exampleEvents(), api.OK)
	same(t, "Log", s.Log(), api.OK, logOf(exampleEvents()...), api.OK)
	do(t, s, "device a", "7", api.OK)
}

// anyLine returns a random line.
func anyLine(r *rand.Rand, l []api.Event) string {
	switch r.Intn(6) {
	case 0:
		return pick(r, "runs", "device a", "device b", "device x", "device s", "runs ", "device", "device  a", "x", "")
	case 1:
		_, line, _ := strings.Cut(referenceBody(anyEvent(r, 1, referenceRegister(l))), " ")
		return damaged(r, line, " 01a;\n")
	}
	_, line, _ := strings.Cut(referenceBody(anyEvent(r, 1, referenceRegister(l))), " ")
	return line
}

// P10.6: random lines have the results of the definition.
func TestSessions(t *testing.T) {
	r := source(10)
	found := map[api.Errno]int{}
	for range 100 {
		s := opened(t, "")
		var l []api.Event
		for range 80 {
			line := anyLine(r, l)
			after, wanted, wantedError := referenceDo(l, line)
			do(t, s, line, wanted, wantedError)
			found[wantedError]++
			l = slices.Clip(after)
			if r.Intn(10) == 0 {
				s = opened(t, s.Log()+pick(r, "", "x", "7 add a#"))
			}
		}
		same(t, "Events", s.Events(), api.OK, l, api.OK)
		same(t, "Log", s.Log(), api.OK, logOf(l...), api.OK)
	}
	decided(t, "Do", found, api.OK, api.ErrSyntax, api.ErrKind, api.ErrUnknown, api.ErrTwice, api.ErrState, api.ErrOver, api.ErrRange, api.ErrEmpty, api.ErrName, api.ErrForm)
}
