package bench_test

import (
	"fmt"
	"slices"
	"strings"
	"testing"

	"strobe/api"
	"strobe/bench"
)

// P10.5: the records of the example's events.
func TestExampleLog(t *testing.T) {
	log := record("1 add a 1 5") + record("2 frame s 1 2 4") + record("3 cal a 9 7") + record("4 run s 9 arm a; trigger") + record("5 undo") + record("6 retire a 2")
	events := append(exampleEvents(), api.Event{Number: 5, Kind: "undo"}, api.Event{Number: 6, Kind: "retire", Names: []string{"a"}, Values: []int{2}})
	written := ""
	for _, event := range events {
		longer, e := bench.Append(written, event)
		same(t, "Append", longer, e, written+record(referenceBody(event)), api.OK)
		written = longer
	}
	same(t, "the log", written, api.OK, log, api.OK)
	got, at, e := bench.Recover(log)
	sameAt(t, "Recover", got, at, e, events, len(log), api.OK)
	got, at, e = bench.Recover("")
	sameAt(t, "Recover of nothing", got, at, e, nil, 0, api.OK)
}

// P10.5: the errors of the first line after the prefix that is a log.
func TestRecoverErrors(t *testing.T) {
	events := numbered(event("add", "a", 1, 5), undo())
	before := logOf(events...)
	for rest, wanted := range map[string]api.Errno{
		"":                                    api.OK,
		"x":                                   api.ErrTorn,
		"3 undo":                              api.ErrTorn,
		"3 undo#":                             api.ErrTorn,
		strings.TrimSpace(record("3 undo")):   api.ErrTorn,
		"#":                                   api.ErrTorn,
		"\n":                                  api.ErrSyntax,
		"\n\n":                                api.ErrSyntax,
		"3 undo\n":                            api.ErrSyntax,
		"3 undo#\n":                           api.ErrSyntax,
		"3 undo#123456\n":                     api.ErrSyntax,
		"3 undo#12345678\n":                   api.ErrSyntax,
		"3 undo#123456x\n":                    api.ErrSyntax,
		"3 undo#x123456\n":                    api.ErrSyntax,
		"3 undo 1234567\n":                    api.ErrSyntax,
		"3 undo#1234567 \n":                   api.ErrSyntax,
		"1234567\n":                           api.ErrSyntax,
		"#1234567\n":                          api.ErrCheck,
		"3 undo#1234567\n":                    api.ErrCheck,
		"x#1234567\n":                         api.ErrCheck,
		record(""):                            api.ErrSyntax,
		record("3"):                           api.ErrSyntax,
		record("3 "):                          api.ErrSyntax,
		record("undo"):                        api.ErrSyntax,
		record("3 undo "):                     api.ErrSyntax,
		record(" 3 undo"):                     api.ErrSyntax,
		record("3  undo"):                     api.ErrSyntax,
		record("03 undo"):                     api.ErrSyntax,
		record("+3 undo"):                     api.ErrSyntax,
		record("-3 undo"):                     api.ErrSyntax,
		record("0 undo"):                      api.ErrSyntax,
		record("x undo"):                      api.ErrSyntax,
		record("1001 undo"):                   api.ErrSyntax,
		record("18446744073709551619 undo"):   api.ErrSyntax,
		record("3 x"):                         api.ErrSyntax,
		record("3 undo a"):                    api.ErrSyntax,
		record("3 add a 1"):                   api.ErrSyntax,
		record("3 add a 1 5 7"):               api.ErrSyntax,
		record("3 add a 1 05"):                api.ErrSyntax,
		record("3 add a 1 -5"):                api.ErrSyntax,
		record("3 add a 1 1000000000"):        api.ErrSyntax,
		record("3 add 1 1 5"):                 api.ErrSyntax,
		record("3 add  1 5"):                  api.ErrSyntax,
		record("3 add a 1 5 "):                api.ErrSyntax,
		record("3 run s 9"):                   api.ErrSyntax,
		record("3 run s 9 "):                  api.ErrSyntax,
		record("3 run s 9 trigger;trigger"):   api.ErrSyntax,
		record("3 run s 9  trigger"):          api.ErrSyntax,
		record("3 run s 9 end"):               api.ErrSyntax,
		record("3 undo#0000001"):              api.ErrSyntax,
		record("2 undo"):                      api.ErrOrder,
		record("1 undo"):                      api.ErrOrder,
		record("4 undo"):                      api.ErrOrder,
		record("1000 undo"):                   api.ErrOrder,
		record("4 undo") + "x":                api.ErrOrder,
		record("4 undo") + record("3 undo"):   api.ErrOrder,
		"3 undo#1234567\n" + record("4 undo"): api.ErrCheck,
	} {
		got, at, e := bench.Recover(before + rest)
		sameAt(t, fmt.Sprintf("Recover %q", rest), got, at, e, events, len(before), wanted)
		_, at, e = referenceRecover(before + rest)
		sameAt(t, fmt.Sprintf("the reference %q", rest), 0, at, e, 0, len(before), wanted)
		longer, e := bench.Append(before+rest, api.Event{Number: 3, Kind: "undo"})
		if wanted == api.OK {
			same(t, "Append", longer, e, before+record("3 undo"), api.OK)
		} else {
			same(t, "Append", longer, e, "", wanted)
			_, e = bench.Append(before+rest, api.Event{})
			isError(t, "Append of an event with an error", e, wanted)
		}
	}
}

// P10.5: events need not be accepted to be in a log, but have no error of their own, and are numbered.
func TestAppendErrors(t *testing.T) {
	log := logOf(numbered(undo(), event("cal", "a", 5, 999999999))...)
	longer, e := bench.Append(log, api.Event{Number: 3, Kind: "retire", Names: []string{"x"}, Values: []int{0}})
	same(t, "Append", longer, e, log+record("3 retire x 0"), api.OK)
	for _, row := range []struct {
		event api.Event
		e     api.Errno
	}{
		{api.Event{}, api.ErrRange}, {api.Event{Number: 9, Kind: "x"}, api.ErrKind}, {api.Event{Number: 3, Kind: "add"}, api.ErrShape}, {api.Event{Number: 2, Kind: "undo"}, api.ErrOrder}, {api.Event{Number: 4, Kind: "undo"}, api.ErrOrder}, {api.Event{Number: 1, Kind: "undo", Text: "x"}, api.ErrForm},
	} {
		longer, e := bench.Append(log, row.event)
		same(t, "Append", longer, e, "", row.e)
	}
}

// longLog returns a log of 1000 events that has n bytes.
func longLog(n int) ([]api.Event, string) {
	events := numbered(slices.Repeat([]api.Event{run("s", 0, "wait 1")}, 1000)...)
	left := n - len(logOf(events...))
	more := "; disarm " + strings.Repeat("a", 24)
	for i := range events {
		count := min(40, left/len(more))
		events[i].Text += strings.Repeat(more, count)
		left -= count * len(more)
	}
	// The rest is added to the names of frames.
	for i := range events {
		count := min(23, left)
		events[i].Names = []string{strings.Repeat("s", count+1)}
		left -= count
	}
	return events, logOf(events...)
}

// P10.5: a log has at most 1000000 bytes and 1000 events.
func TestLongLogs(t *testing.T) {
	for _, n := range []int{999999, 1000000, 1000001} {
		events, log := longLog(n)
		if len(log) != n {
			t.Fatalf("a log of %d bytes has %d", n, len(log))
		}
		before, last := logOf(events[:999]...), events[999]
		longer, e := bench.Append(before, last)
		got, at, problem := bench.Recover(log)
		if n > 1000000 {
			same(t, "Append", longer, e, "", api.ErrLong)
			sameAt(t, "Recover", got, at, problem, nil, 0, api.ErrLong)
			continue
		}
		same(t, "Append", longer, e, log, api.OK)
		sameAt(t, "Recover", got, at, problem, events, n, api.OK)
		got, at, problem = bench.Recover(log[:n-1])
		sameAt(t, "Recover of a torn log", got, at, problem, events[:999], len(before), api.ErrTorn)
	}
	got, at, e := bench.Recover(strings.Repeat("\n", 1000001))
	sameAt(t, "Recover", got, at, e, nil, 0, api.ErrLong)
	got, at, e = bench.Recover(strings.Repeat("\n", 1000000))
	sameAt(t, "Recover", got, at, e, nil, 0, api.ErrSyntax)
	events, log := longLog(50000)
	for body, wanted := range map[string]api.Errno{"1001 undo": api.ErrSyntax, "1000 undo": api.ErrOrder} {
		got, at, e := bench.Recover(log + record(body))
		sameAt(t, "Recover of a record too many", got, at, e, events, len(log), wanted)
	}
	longer, e := bench.Append(log, api.Event{Number: 1000, Kind: "undo"})
	same(t, "Append of a record too many", longer, e, "", api.ErrOrder)
	longer, e = bench.Append(log, api.Event{Number: 1001, Kind: "undo"})
	same(t, "Append of a record too many", longer, e, "", api.ErrRange)
}

// P10.5: damaged logs have the results of the definition.
func TestDamagedLogs(t *testing.T) {
	r := source(9)
	found := map[api.Errno]int{}
	for range 5000 {
		var l []api.Event
		for i := range r.Intn(6) {
			l = append(l, anyEvent(r, i+1, bench.Register{Day: i, Devices: []bench.Device{{Name: "a"}}}))
		}
		log := logOf(l...)
		switch r.Intn(4) {
		case 0:
			log = damaged(r, log, "\n#0 1")
		case 1:
			log = log[:r.Intn(len(log)+1)]
		case 2:
			log += record(damaged(r, referenceBody(anyEvent(r, len(l)+1, bench.Register{})), " 01;\n#"))
		}
		wanted, wantedAt, wantedError := referenceRecover(log)
		got, at, e := bench.Recover(log)
		sameAt(t, "Recover "+log, got, at, e, wanted, wantedAt, wantedError)
		found[e]++
		last := api.Event{Number: len(wanted) + r.Intn(2), Kind: "undo"}
		if e == api.OK {
			e = referenceCheckEvent(last)
		}
		if e == api.OK && last.Number != len(wanted)+1 {
			e = api.ErrOrder
		}
		longer, problem := bench.Append(log, last)
		same(t, "Append", longer, problem, map[bool]string{true: log + logOf(last)}[e == api.OK], e)
	}
	decided(t, "Recover", found, api.OK, api.ErrTorn, api.ErrSyntax, api.ErrCheck, api.ErrOrder)
}
