package bench

import (
	"slices"
	"strconv"
	"strings"

	"strobe/api"
	"strobe/common"
)

// The kinds of events.
const (
	kindAdd    = "add"
	kindCal    = "cal"
	kindRetire = "retire"
	kindFrame  = "frame"
	kindRun    = "run"
	kindUndo   = "undo"
)

// kind is what events with the same word have in common.
type kind struct {
	names, values int
	// hasScript says that the text is the source of a script.
	hasScript bool
	// effect returns the changed register, or the error with which the event is not accepted. It is missing for an event
	// that takes back another one.
	effect func(Register, api.Event) (Register, api.Errno)
}

// kinds returns the kinds by their words.
func kinds() map[string]kind {
	return map[string]kind{
		kindAdd:    {names: 1, values: 2, effect: Register.add},
		kindCal:    {names: 1, values: 2, effect: Register.calibrate},
		kindRetire: {names: 1, values: 1, effect: Register.retire},
		kindFrame:  {names: 1, values: 3, effect: Register.frame},
		kindRun:    {names: 1, values: 1, hasScript: true, effect: Register.run},
		kindUndo:   {},
	}
}

// CheckEvent returns the first error of an event by itself, or OK.
func CheckEvent(event api.Event) api.Errno {
	k, isKind := kinds()[event.Kind]
	if e := common.FirstError(
		common.InRange(event.Number, 1, api.MaxEvents),
		common.ErrorIf(!isKind, api.ErrKind),
		common.ErrorIf(len(event.Names) != k.names || len(event.Values) != k.values, api.ErrShape)); e != api.OK {
		return e
	}
	for _, name := range event.Names {
		if e := checkName(name); e != api.OK {
			return e
		}
	}
	for _, value := range event.Values {
		if e := common.InRange(value, 0, api.MaxNumber); e != api.OK {
			return e
		}
	}
	return common.ErrorIf(!k.permits(event.Text), api.ErrForm)
}

// permits reports whether an event of a kind may have a text.
func (k kind) permits(text string) bool {
	if !k.hasScript {
		return text == ""
	}
	l, _, e := ParseScript(text)
	if e != api.OK || len(l) == 0 {
		return false
	}
	source, _ := PrintScript(l)
	return source == text
}

// forms returns the forms of the words of a line that enters an event with a certain word.
func (k kind) forms(word string) []func(string) bool {
	forms := slices.Concat([]func(string) bool{exactly(word)}, slices.Repeat([]func(string) bool{isWord}, k.names), slices.Repeat([]func(string) bool{isInteger}, k.values))
	if k.hasScript {
		forms = append(forms, isAnything)
	}
	return forms
}

// readEvent returns the event with a number and a line, which is its body without its number, if the line has its form.
func readEvent(number int, line string) (api.Event, bool) {
	word, _, _ := strings.Cut(line, " ")
	k, isKind := kinds()[word]
	if !isKind {
		return api.Event{}, false
	}
	words, hasForm := wordsOf(line, k.forms(word)...)
	if !hasForm {
		return api.Event{}, false
	}
	names, values := words[1:1+k.names], words[1+k.names:1+k.names+k.values]
	event := api.Event{Number: number, Kind: word, Names: slices.Clone(names), Values: common.Transformed(values, integer)}
	if k.hasScript {
		event.Text = words[len(words)-1]
	}
	return event, true
}

// readBody returns the event with a body, if it is that of an event without an error.
func readBody(body string) (api.Event, bool) {
	number, line, _ := strings.Cut(body, " ")
	event, hasForm := readEvent(integer(number), line)
	if !hasForm || CheckEvent(event) != api.OK {
		return api.Event{}, false
	}
	return event, true
}

// bodyOf returns the body of an event.
func bodyOf(event api.Event) string {
	words := slices.Concat([]string{strconv.Itoa(event.Number), event.Kind}, event.Names, common.Transformed(event.Values, strconv.Itoa))
	if kinds()[event.Kind].hasScript {
		words = append(words, event.Text)
	}
	return strings.Join(words, " ")
}

// cloned returns an event with a memory of its own.
func cloned(event api.Event) api.Event {
	event.Names, event.Values = slices.Clone(event.Names), slices.Clone(event.Values)
	return event
}
