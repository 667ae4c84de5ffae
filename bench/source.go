package bench

import (
	"strconv"
	"strings"

	"strobe/api"
)

// PrintScript returns the canonical source of a script.
func PrintScript(l []Command) (string, api.Errno) {
	if e := CheckScript(l); e != api.OK {
		return "", e
	}
	known := operations()
	commands := make([]string, len(l))
	for i, c := range l {
		commands[i] = known[c.Op].print(c)
	}
	return strings.Join(commands, "; "), api.OK
}

// print returns the source of a command of this operation.
func (o operation) print(c Command) string {
	source := c.Op
	if o.hasName {
		source += " " + c.Name
	}
	if o.hasCount() {
		source += " " + strconv.Itoa(c.Count)
	}
	return source
}

// ParseScript returns the script of a source, or the number of a command with an error.
func ParseScript(src string) ([]Command, int, api.Errno) {
	if len(src) > api.MaxText {
		return nil, 0, api.ErrLong
	}
	l, wrong := readScript(src)
	if wrong > 0 {
		return nil, wrong, api.ErrSyntax
	}
	if e := CheckScript(l); e != api.OK {
		return nil, 0, e
	}
	return l, 0, api.OK
}

// readScript returns the script of a source, or the number of the first command that does not have its form.
func readScript(src string) ([]Command, int) {
	if len(spaced(src)) == 0 {
		return nil, 0
	}
	known := operations()
	var l []Command
	for i, text := range strings.Split(src, ";") {
		c, hasForm := readCommand(spaced(text), known)
		if !hasForm {
			return nil, i + 1
		}
		l = append(l, c)
	}
	return l, 0
}

// readCommand returns the command with some words, if it has its form.
func readCommand(words []string, known map[string]operation) (Command, bool) {
	if len(words) == 0 {
		return Command{}, false
	}
	o, isKnown := known[words[0]]
	if !isKnown || !haveForms(words[1:], o.forms()) {
		return Command{}, false
	}
	c := Command{Op: words[0]}
	if o.hasName {
		c.Name = words[1]
	}
	if o.hasCount() {
		c.Count = integer(words[1])
	}
	return c, true
}

// spaced returns the words of a text that are separated by one or more spaces.
func spaced(text string) []string {
	return strings.FieldsFunc(text, func(c rune) bool { return c == ' ' })
}
