package bench_test

import (
	"fmt"
	"slices"
	"strings"
	"testing"

	"strobe/api"
	"strobe/bench"
)

// P10.7: set-ups and scripts are read as they were printed.
func TestReadAsPrinted(t *testing.T) {
	r := source(11)
	for range 2000 {
		s := anySetup(r)
		file, e := bench.PrintSetup(s)
		isError(t, "PrintSetup", e, api.OK)
		again, at, e := bench.ParseSetup(file)
		sameAt(t, "ParseSetup", again, at, e, s, 0, api.OK)
		l := anyScript(r, names(len(s.Instruments)), 4)
		text, e := bench.PrintScript(l)
		if e != api.OK {
			continue
		}
		script, at, e := bench.ParseScript(text)
		sameAt(t, "ParseScript", script, at, e, l, 0, api.OK)
	}
}

// P10.7: a file of which a byte is changed is not parsed.
func TestChangedFiles(t *testing.T) {
	r := source(12)
	for i := range 3 {
		s := anySetup(r)
		s.Level, s.Instruments = "1/2", s.Instruments[:min(i, len(s.Instruments))]
		file, _ := bench.PrintSetup(s)
		for at := range len(file) {
			for b := range 256 {
				changed := file[:at] + string([]byte{byte(b)}) + file[at+1:]
				if got, _, e := bench.ParseSetup(changed); changed != file && e == api.OK {
					t.Errorf("the file %q is parsed as %v", changed, got)
				}
			}
		}
	}
}

// P10.7: a listener that is never full receives each shot once, in order; scripts that are executed one after another produce the
// shots of the concatenated script.
func TestShotsOfConcatenatedScripts(t *testing.T) {
	r := source(13)
	found := map[bool]int{}
	for range 3000 {
		s := anySetup(r)
		s.Level = "0"
		b := newBench(t, s)
		c := subscribed(t, b, 64)
		var all []bench.Command
		var received []bench.Shot
		isFull := false
		for range r.Intn(4) {
			l := anyScript(r, names(len(s.Instruments)), 1)
			n, e := b.Execute(l)
			shots, lost, _ := b.Drain(c)
			isFull = isFull || lost > 0
			if e == api.OK {
				all, received = append(all, l...), append(received, shots...)
				same(t, "Execute", n, e, len(shots)+lost, api.OK)
			}
		}
		shots, e := bench.Shots(s, all)
		if isFull || len(all) > 64 || e == api.ErrMany || e == api.ErrLimit {
			continue
		}
		same(t, "Shots of "+referenceSource(all), shots, e, received, api.OK)
		found[len(shots) > 0]++
	}
	decided(t, "Execute", found, true, false)
}

// P10.7: shots that arrive late, or more than once, are collected to the same shots.
func TestLateShots(t *testing.T) {
	r := source(14)
	for range 500 {
		s := anySetup(r)
		s.Level = "0"
		shots, e := bench.Shots(s, anyScript(r, names(len(s.Instruments)), 2))
		if e != api.OK || len(shots) > 500 {
			continue
		}
		collected, e := bench.Collect(shots)
		isError(t, "Collect", e, api.OK)
		missing, e := bench.FindMissing(shots)
		same(t, "FindMissing", missing, e, nil, api.OK)
		late := append(slices.Clone(shots), shots[:r.Intn(len(shots)+1)]...)
		r.Shuffle(len(late), func(i, j int) { late[i], late[j] = late[j], late[i] })
		again, e := bench.Collect(late)
		same(t, "Collect of late shots", again, e, collected, api.OK)
	}
}

// P10.7: a log of which a byte is changed, neither to nor from a line feed, is not recovered as a whole; neither is one that is
// cut off in the middle of a record, but its whole events are.
func TestChangedLogs(t *testing.T) {
	events := append(exampleEvents(), api.Event{Number: 5, Kind: "undo"})
	log := logOf(events...)
	for at := range len(log) {
		for b := range 256 {
			changed := log[:at] + string([]byte{byte(b)}) + log[at+1:]
			if changed == log || log[at] == '\n' || b == '\n' {
				continue
			}
			got, length, e := bench.Recover(changed)
			if e == api.OK || length > at {
				t.Errorf("the log %q is recovered up to %d", changed, length)
			}
			same(t, "Recover", got, api.OK, events[:len(got)], api.OK)
		}
		got, length, e := bench.Recover(log[:at])
		whole := strings.Count(log[:at], "\n")
		wanted := api.ErrTorn
		if at == strings.LastIndex(log[:at], "\n")+1 {
			wanted = api.OK
		}
		sameAt(t, "Recover of a part", got, length, e, events[:whole], strings.LastIndex(log[:at], "\n")+1, wanted)
	}
}

// P10.7: undoing all events leaves an empty register.
func TestUndoneEvents(t *testing.T) {
	r := source(15)
	for range 100 {
		l := anyJournal(r, 30, func([]api.Event, api.Event) {})
		for len(countingOf(l)) > 0 {
			l = append(l, api.Event{Number: len(l) + 1, Kind: "undo"})
		}
		register, at, e := bench.Replay(l)
		sameAt(t, "Replay", register, at, e, bench.Register{}, 0, api.OK)
	}
}

// P1: no function panics, whatever its arguments are.
func TestArbitraryArguments(t *testing.T) {
	r := source(16)
	integer := func() int { return pick(r, append(far(), 0, 1, 2, 3, 64, 1000, 999999999)...) }
	text := func() string {
		return pick(r, "", "a", "run", "undo", "arm a; trigger", "1 undo", record("1 undo"), "setup s\n", "sum ", "#0000001", ";;", "\n", strings.Repeat("a;", 3000), damaged(r, referenceFile(exampleSetup()), "\n x\xff"), damaged(r, logOf(exampleEvents()...), "\n x\xff"))
	}
	var none *bench.Bench
	var nobody *bench.Session
	for range 2000 {
		s := bench.Setup{Name: text(), Pre: integer(), Post: integer(), Level: api.Rat(text())}
		var l []bench.Command
		var shots []bench.Shot
		var events []api.Event
		for range r.Intn(4) {
			s.Instruments = append(s.Instruments, bench.Instrument{Name: text(), Delay: integer()})
			l = append(l, bench.Command{Op: pick(r, "arm", "end", "repeat", "wait", "trigger", text()), Name: pick(r, "", text()), Count: integer()})
			shots = append(shots, bench.Shot{Instrument: text(), Number: integer(), Time: integer(), From: integer(), To: integer()})
			events = append(events, api.Event{Number: integer(), Kind: pick(r, "add", "run", text()), Names: []string{text()}[r.Intn(2):], Values: []int{integer(), integer(), integer()}[r.Intn(4):], Text: text()})
		}
		bench.CheckSetup(s)
		bench.PrintSetup(s)
		bench.ParseSetup(text())
		bench.CheckScript(l)
		bench.PrintScript(l)
		bench.ParseScript(text())
		bench.Shots(s, l)
		bench.Shots(exampleSetup(), l)
		bench.Collect(shots)
		bench.FindMissing(shots)
		bench.Replay(events)
		bench.DelayAt(events, text(), integer())
		bench.Recover(text() + text())
		for _, event := range events {
			bench.CheckEvent(event)
			bench.Accepts(events, event)
			bench.Append(text(), event)
		}
		b, _ := bench.New(pick(r, s, exampleSetup()))
		for _, x := range []*bench.Bench{none, b, {}} {
			c, _ := x.Subscribe(integer())
			x.Execute(l)
			x.Drain(c)
			x.Unsubscribe(pick(r, c, nil))
		}
		session, _ := bench.Open(text())
		for _, x := range []*bench.Session{nobody, session, {}} {
			x.Do(pick(r, text(), fmt.Sprint("cal a ", integer(), " ", integer()), "device "+text(), "run s 9 "+text()))
			x.Events()
			x.Log()
		}
	}
}
