package bench

import (
	"slices"
	"strconv"
	"strings"

	"strobe/api"
	"strobe/common"
)

// Session is a console: the history of its events. The zero value has no events.
type Session struct {
	history
}

// question is what lines that ask have in common.
type question struct {
	// arguments is the number of the words after the first one.
	arguments int
	// answer returns the words of the result.
	answer func(Register, []string) ([]string, api.Errno)
}

// questions returns the questions by their first words.
func questions() map[string]question {
	return map[string]question{
		"device": {1, answerDevice},
		"runs":   {0, answerRuns},
	}
}

// Open returns the session with a log.
func Open(log string) (*Session, api.Errno) {
	events, _, e := Recover(log)
	// A torn record was never written as a whole, so that it is left out.
	if e != api.OK && e != api.ErrTorn {
		return nil, e
	}
	h, _, e := replayed(events)
	if e != api.OK {
		return nil, e
	}
	return &Session{h}, api.OK
}

// Do executes a line, and returns its result.
func (s *Session) Do(line string) (string, api.Errno) {
	if s == nil {
		return "", api.ErrState
	}
	if e := common.FirstError(common.ErrorIf(len(line) > api.MaxText, api.ErrLong), common.ErrorIf(line == "", api.ErrSyntax)); e != api.OK {
		return "", e
	}
	word, _, _ := strings.Cut(line, " ")
	if _, isKind := kinds()[word]; isKind {
		return s.enter(line)
	}
	if q, isQuestion := questions()[word]; isQuestion {
		return s.ask(q, line)
	}
	return "", api.ErrKind
}

// enter adds the event of a line.
func (s *Session) enter(line string) (string, api.Errno) {
	next := len(s.events) + 1
	event, hasForm := readEvent(next, line)
	if !hasForm {
		return "", api.ErrSyntax
	}
	if e := common.FirstError(s.room(), CheckEvent(event)); e != api.OK {
		return "", e
	}
	if e := s.accept(event); e != api.OK {
		return "", e
	}
	return "done " + strconv.Itoa(next), api.OK
}

// ask returns the answer to a line that is a question.
func (s *Session) ask(q question, line string) (string, api.Errno) {
	words := strings.Split(line, " ")
	if !haveForms(words, slices.Repeat([]func(string) bool{isWord}, 1+q.arguments)) {
		return "", api.ErrSyntax
	}
	answer, e := q.answer(s.register(), words[1:])
	if e != api.OK {
		return "", e
	}
	if len(answer) == 0 {
		return "none", api.OK
	}
	return strings.Join(answer, " "), api.OK
}

// answerDevice returns the delay of a device, and whether it is retired.
func answerDevice(r Register, arguments []string) ([]string, api.Errno) {
	i := r.device(arguments[0])
	if i < 0 {
		return nil, api.ErrUnknown
	}
	words := []string{strconv.Itoa(r.Devices[i].Delay)}
	if r.Devices[i].Retired {
		words = append(words, "retired")
	}
	return words, api.OK
}

// answerRuns returns the frame, the day and the number of shots of each run.
func answerRuns(r Register, _ []string) ([]string, api.Errno) {
	return common.Transformed(r.Runs, Run.word), api.OK
}

// word returns a run as a word of a result.
func (r Run) word() string {
	return r.Frame + "." + strconv.Itoa(r.Day) + "." + strconv.Itoa(r.Shots)
}

// Events returns the events.
func (s *Session) Events() []api.Event {
	if s == nil {
		return nil
	}
	return common.Transformed(s.events, cloned)
}

// Log returns the log of the events.
func (s *Session) Log() string {
	if s == nil {
		return ""
	}
	return strings.Join(common.Transformed(s.events, recordOf), "")
}
