package bench_test

import (
	"fmt"
	"regexp"
	"slices"
	"strings"

	"strobe/api"
	"strobe/bench"
	"strobe/number"
)

// shapeOf returns the numbers of names and of values that events of a kind have.
func shapeOf(kind string) ([2]int, bool) {
	shape, isKind := map[string][2]int{"add": {1, 2}, "cal": {1, 2}, "retire": {1, 1}, "frame": {1, 3}, "run": {1, 1}, "undo": {0, 0}}[kind]
	return shape, isKind
}

// referenceCheckEvent returns the first error of an event by itself.
func referenceCheckEvent(event api.Event) api.Errno {
	shape, isKind := shapeOf(event.Kind)
	script, _, e := referenceParseScript(event.Text)
	switch {
	case event.Number < 1 || event.Number > 1000:
		return api.ErrRange
	case !isKind:
		return api.ErrKind
	case shape != [2]int{len(event.Names), len(event.Values)}:
		return api.ErrShape
	case slices.ContainsFunc(event.Names, func(name string) bool { return !number.IsName(name) }):
		return api.ErrName
	case slices.ContainsFunc(event.Values, func(value int) bool { return value < 0 || value > 999999999 }):
		return api.ErrRange
	case event.Kind != "run" && event.Text != "":
		return api.ErrForm
	case event.Kind == "run" && (e != api.OK || len(script) == 0 || referenceSource(script) != event.Text):
		return api.ErrForm
	}
	return api.OK
}

// countingOf returns the events that count.
func countingOf(l []api.Event) []api.Event {
	var counting []api.Event
	for _, event := range l {
		if event.Kind == "undo" {
			counting = counting[:len(counting)-1]
		} else {
			counting = append(counting, event)
		}
	}
	return counting
}

// referenceRegister applies the effects of the events that count to an empty register.
func referenceRegister(l []api.Event) bench.Register {
	var r bench.Register
	for _, event := range countingOf(l) {
		name, v := event.Names[0], event.Values
		r.Day = v[0]
		switch event.Kind {
		case "add":
			r.Devices = append(r.Devices, bench.Device{Name: name, Delay: v[1]})
		case "frame":
			r.Frames = append(r.Frames, bench.Frame{Name: name, Pre: v[1], Post: v[2]})
		case "run":
			shots, _ := runOf(r, event)
			r.Runs = append(r.Runs, bench.Run{Frame: name, Day: v[0], Shots: len(shots)})
		}
		for i := range r.Devices {
			if r.Devices[i].Name == name && event.Kind == "cal" {
				r.Devices[i].Delay = v[1]
			}
			if r.Devices[i].Name == name && event.Kind == "retire" {
				r.Devices[i].Retired = true
			}
		}
	}
	return r
}

// runOf returns the shots of an event that executes a script, or the error; the frame must exist.
func runOf(r bench.Register, event api.Event) ([]bench.Shot, api.Errno) {
	f := r.Frames[frameIn(r, event.Names[0])]
	s := bench.Setup{Name: f.Name, Pre: f.Pre, Post: f.Post, Level: "0"}
	for _, d := range r.Devices {
		if !d.Retired {
			s.Instruments = append(s.Instruments, bench.Instrument{Name: d.Name, Delay: d.Delay})
		}
	}
	script, _, _ := referenceParseScript(event.Text)
	return referenceShots(s, script)
}

// deviceIn and frameIn return an index, or -1.
func deviceIn(r bench.Register, name string) int {
	return slices.IndexFunc(r.Devices, func(d bench.Device) bool { return d.Name == name })
}
func frameIn(r bench.Register, name string) int {
	return slices.IndexFunc(r.Frames, func(f bench.Frame) bool { return f.Name == name })
}

// referenceAccepted returns the error with which a valid event is not accepted after others.
func referenceAccepted(l []api.Event, event api.Event) api.Errno {
	if event.Number != len(l)+1 {
		return api.ErrOrder
	}
	r := referenceRegister(l)
	if event.Kind == "undo" {
		if len(countingOf(l)) == 0 {
			return api.ErrEmpty
		}
		return api.OK
	}
	name, v := event.Names[0], event.Values
	device, frame := deviceIn(r, name), frameIn(r, name)
	switch {
	case v[0] > 99999:
		return api.ErrRange
	case v[0] < r.Day:
		return api.ErrState
	case event.Kind == "add" && device >= 0, event.Kind == "frame" && frame >= 0:
		return api.ErrTwice
	case (event.Kind == "cal" || event.Kind == "retire") && device < 0, event.Kind == "run" && frame < 0:
		return api.ErrUnknown
	case event.Kind == "add" && len(r.Devices) == 16, event.Kind == "frame" && len(r.Frames) == 16:
		return api.ErrMany
	case (event.Kind == "cal" || event.Kind == "retire") && r.Devices[device].Retired:
		return api.ErrOver
	case (event.Kind == "add" || event.Kind == "cal") && v[1] > 100000, event.Kind == "frame" && max(v[1], v[2]) > 4096:
		return api.ErrRange
	case event.Kind == "run":
		_, e := runOf(r, event)
		return e
	}
	return api.OK
}

// referenceReplay accepts events one after another.
func referenceReplay(l []api.Event) (bench.Register, int, api.Errno) {
	if len(l) > 1000 {
		return bench.Register{}, 0, api.ErrMany
	}
	for i, event := range l {
		e := referenceCheckEvent(event)
		if e == api.OK {
			e = referenceAccepted(l[:i], event)
		}
		if e != api.OK {
			return bench.Register{}, i + 1, e
		}
	}
	return referenceRegister(l), 0, api.OK
}

// referenceAccepts returns the error of Accepts for events without an error.
func referenceAccepts(l []api.Event, event api.Event) api.Errno {
	if e := referenceCheckEvent(event); e != api.OK {
		return e
	}
	if len(l) >= 1000 {
		return api.ErrMany
	}
	return referenceAccepted(l, event)
}

// referenceDelayAt returns the delay of a device on a day after events without an error.
func referenceDelayAt(l []api.Event, device string, day int) (int, api.Errno) {
	if !number.IsName(device) {
		return 0, api.ErrName
	}
	if day < 0 || day > 99999 {
		return 0, api.ErrRange
	}
	if deviceIn(referenceRegister(l), device) < 0 {
		return 0, api.ErrUnknown
	}
	// What has happened to the device up to this day.
	var past []api.Event
	for _, event := range countingOf(l) {
		if event.Kind != "frame" && event.Kind != "run" && event.Names[0] == device && event.Values[0] <= day {
			past = append(past, event)
		}
	}
	if len(past) == 0 {
		return 0, api.ErrState
	}
	last := past[len(past)-1]
	if last.Kind == "retire" {
		return 0, api.ErrOver
	}
	return last.Values[1], api.OK
}

// referenceBody returns the body of an event, whether it is valid or not.
func referenceBody(event api.Event) string {
	body := fmt.Sprint(event.Number, " ", event.Kind)
	for _, name := range event.Names {
		body += " " + name
	}
	for _, value := range event.Values {
		body += fmt.Sprint(" ", value)
	}
	if event.Kind == "run" {
		body += " " + event.Text
	}
	return body
}

// record returns the record with a body.
func record(body string) string { return body + "#" + referenceSum(body) + "\n" }

// logOf returns the log of events.
func logOf(events ...api.Event) string {
	log := ""
	for _, event := range events {
		log += record(referenceBody(event))
	}
	return log
}

// numbered returns events with the numbers from 1 on.
func numbered(events ...api.Event) []api.Event {
	l := slices.Clone(events)
	for i := range l {
		l[i].Number = i + 1
	}
	return l
}

// eventIn returns the event of a line without its number, if the line has its form.
func eventIn(number int, line string) (api.Event, bool) {
	kind, _, _ := strings.Cut(line, " ")
	shape, isKind := shapeOf(kind)
	pattern := "(?s)^" + kind + strings.Repeat(" ([^ ]+)", shape[0]) + strings.Repeat(" (0|[1-9][0-9]{0,8})", shape[1])
	if kind == "run" {
		pattern += " (.*)"
	}
	if !isKind || !regexp.MustCompile(pattern+"$").MatchString(line) {
		return api.Event{}, false
	}
	parts := regexp.MustCompile(pattern + "$").FindStringSubmatch(line)[1:]
	event := api.Event{Number: number, Kind: kind, Names: parts[:shape[0]]}
	for _, part := range parts[shape[0] : shape[0]+shape[1]] {
		event.Values = append(event.Values, valueOf(part))
	}
	if kind == "run" {
		event.Text = parts[2]
	}
	return event, true
}

// referenceRecover reads one line after another.
func referenceRecover(log string) ([]api.Event, int, api.Errno) {
	if len(log) > 1000000 {
		return nil, 0, api.ErrLong
	}
	var events []api.Event
	at := 0
	for at < len(log) {
		length := strings.IndexByte(log[at:], '\n')
		if length < 0 {
			return events, at, api.ErrTorn
		}
		event, e := referenceRecord(log[at : at+length])
		if e == api.OK && event.Number != len(events)+1 {
			e = api.ErrOrder
		}
		if e != api.OK {
			return events, at, e
		}
		events = append(events, event)
		at += length + 1
	}
	return events, at, api.OK
}

// recordForm is the form of a line of a log, bodyForm that of a body.
var (
	recordForm = regexp.MustCompile(`(?s)^(.*)#([0-9]{7})$`)
	bodyForm   = regexp.MustCompile(`(?s)^([1-9][0-9]{0,3}) (.*)$`)
)

// referenceRecord returns the event of a line of a log.
func referenceRecord(line string) (api.Event, api.Errno) {
	parts := recordForm.FindStringSubmatch(line)
	if parts == nil {
		return api.Event{}, api.ErrSyntax
	}
	if referenceSum(parts[1]) != parts[2] {
		return api.Event{}, api.ErrCheck
	}
	body := bodyForm.FindStringSubmatch(parts[1])
	if body == nil {
		return api.Event{}, api.ErrSyntax
	}
	event, hasForm := eventIn(valueOf(body[1]), body[2])
	if !hasForm || referenceCheckEvent(event) != api.OK {
		return api.Event{}, api.ErrSyntax
	}
	return event, api.OK
}

// referenceDo returns the events after a line of a console, and its result.
func referenceDo(l []api.Event, line string) ([]api.Event, string, api.Errno) {
	if len(line) > 4096 {
		return l, "", api.ErrLong
	}
	if line == "" {
		return l, "", api.ErrSyntax
	}
	words := strings.Split(line, " ")
	r := referenceRegister(l)
	if _, isKind := shapeOf(words[0]); isKind {
		return referenceEnter(l, line)
	}
	switch {
	case words[0] != "device" && words[0] != "runs":
		return l, "", api.ErrKind
	case words[0] == "runs" && len(words) != 1, words[0] == "device" && (len(words) != 2 || words[1] == ""):
		return l, "", api.ErrSyntax
	case words[0] == "runs" && len(r.Runs) == 0:
		return l, "none", api.OK
	case words[0] == "runs":
		var runs []string
		for _, run := range r.Runs {
			runs = append(runs, fmt.Sprintf("%s.%d.%d", run.Frame, run.Day, run.Shots))
		}
		return l, strings.Join(runs, " "), api.OK
	case deviceIn(r, words[1]) < 0:
		return l, "", api.ErrUnknown
	}
	d := r.Devices[deviceIn(r, words[1])]
	if d.Retired {
		return l, fmt.Sprint(d.Delay, " retired"), api.OK
	}
	return l, fmt.Sprint(d.Delay), api.OK
}

// referenceEnter returns the events after a line that is an event.
func referenceEnter(l []api.Event, line string) ([]api.Event, string, api.Errno) {
	event, hasForm := eventIn(len(l)+1, line)
	if !hasForm {
		return l, "", api.ErrSyntax
	}
	if len(l) >= 1000 {
		return l, "", api.ErrMany
	}
	if e := referenceAccepts(l, event); e != api.OK {
		return l, "", e
	}
	return append(slices.Clip(l), event), fmt.Sprint("done ", event.Number), api.OK
}
