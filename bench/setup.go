package bench

import (
	"slices"
	"strconv"
	"strings"

	"strobe/api"
	"strobe/common"
	"strobe/number"
)

// The first words of the lines of a file.
const (
	lineSetup      = "setup"
	lineInstrument = "instrument"
	lineWindow     = "window"
	lineLevel      = "level"
	lineSum        = "sum"
)

// CheckSetup returns the first error of a set-up, or OK.
func CheckSetup(s Setup) api.Errno {
	if e := common.FirstError(checkName(s.Name), common.AtMost(s.Instruments, MaxInstruments)); e != api.OK {
		return e
	}
	for i, x := range s.Instruments {
		if e := x.check(s.Instruments[:i]); e != api.OK {
			return e
		}
	}
	return common.FirstError(common.InRange(s.Pre, 0, api.MaxSamples), common.InRange(s.Post, 0, api.MaxSamples), number.Check(s.Level))
}

// check returns the first error of an instrument that follows others in a set-up.
func (x Instrument) check(others []Instrument) api.Errno {
	return common.FirstError(
		checkName(x.Name),
		common.ErrorIf(indexOf(others, x.Name, Instrument.name) >= 0, api.ErrTwice),
		common.InRange(x.Delay, 0, MaxDelay))
}

// checkName returns ErrName if a string is not a name.
func checkName(s string) api.Errno {
	return common.ErrorIf(!number.IsName(s), api.ErrName)
}

// name returns the name of an instrument.
func (x Instrument) name() string {
	return x.Name
}

// indexOf returns the index of the element with a name, or -1 if there is none.
func indexOf[T any](list []T, name string, nameOf func(T) string) int {
	return slices.IndexFunc(list, func(x T) bool { return nameOf(x) == name })
}

// PrintSetup returns the file of a set-up.
func PrintSetup(s Setup) (string, api.Errno) {
	if e := CheckSetup(s); e != api.OK {
		return "", e
	}
	lines := lineOf(lineSetup, s.Name)
	for _, x := range s.Instruments {
		lines += lineOf(lineInstrument, x.Name, strconv.Itoa(x.Delay))
	}
	lines += lineOf(lineWindow, strconv.Itoa(s.Pre), strconv.Itoa(s.Post))
	lines += lineOf(lineLevel, string(s.Level))
	file := lines + lineOf(lineSum, checksum(lines))
	if len(file) > api.MaxText {
		return "", api.ErrLong
	}
	return file, api.OK
}

// lineOf returns the line with some words.
func lineOf(words ...string) string {
	return strings.Join(words, " ") + "\n"
}

// ParseSetup returns the set-up of a file, or the number of a line with an error.
func ParseSetup(file string) (Setup, int, api.Errno) {
	if len(file) > api.MaxText {
		return Setup{}, 0, api.ErrLong
	}
	text, isWhole := strings.CutSuffix(file, "\n")
	if !isWhole {
		return Setup{}, 0, api.ErrTorn
	}
	r := &reader{rest: strings.Split(text, "\n")}
	s := r.setup()
	sum := r.line(lineSum, isSum)[0]
	r.finish()
	if r.isRefused {
		return Setup{}, r.number, api.ErrSyntax
	}
	if sum != checksum(text[:strings.LastIndex(text, "\n")+1]) {
		return Setup{}, r.number, api.ErrCheck
	}
	if e := CheckSetup(s); e != api.OK {
		return Setup{}, 0, e
	}
	return s, 0, api.OK
}

// reader reads the lines of a file in turn, until one does not have its form. Number is that of the last line it tried.
type reader struct {
	rest      []string
	number    int
	isRefused bool
}

// setup reads the lines of a set-up before its checksum.
func (r *reader) setup() Setup {
	s := Setup{Name: r.line(lineSetup, isWord)[0]}
	for r.isNext(lineInstrument) {
		words := r.line(lineInstrument, isWord, isInteger)
		s.Instruments = append(s.Instruments, Instrument{words[0], integer(words[1])})
	}
	window := r.line(lineWindow, isInteger, isInteger)
	s.Pre, s.Post = integer(window[0]), integer(window[1])
	s.Level = api.Rat(r.line(lineLevel, isWord)[0])
	return s
}

// line reads the line with a first word and others of some forms, and returns the others, which are empty if it is refused.
func (r *reader) line(first string, forms ...func(string) bool) []string {
	if r.isRefused {
		return make([]string, len(forms))
	}
	r.number++
	if len(r.rest) > 0 {
		if words, hasForm := wordsOf(r.rest[0], append([]func(string) bool{exactly(first)}, forms...)...); hasForm {
			r.rest = r.rest[1:]
			return words[1:]
		}
	}
	r.isRefused = true
	return make([]string, len(forms))
}

// isNext reports whether there is a next line, and begins with a word.
func (r *reader) isNext(word string) bool {
	if r.isRefused || len(r.rest) == 0 {
		return false
	}
	first, _, _ := strings.Cut(r.rest[0], " ")
	return first == word
}

// finish refuses the next line if there is one.
func (r *reader) finish() {
	if !r.isRefused && len(r.rest) > 0 {
		r.number, r.isRefused = r.number+1, true
	}
}
