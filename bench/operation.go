package bench

import (
	"strobe/api"
	"strobe/common"
)

// The operations of commands.
const (
	opArm     = "arm"
	opDisarm  = "disarm"
	opWait    = "wait"
	opTrigger = "trigger"
	opRepeat  = "repeat"
	opEnd     = "end"
)

// operation is what commands with the same word have in common.
type operation struct {
	hasName bool
	// least and most are the range of the count, which is 0 for an operation without one.
	least, most int
	// execute is missing where a command only says which others are executed.
	execute func(*execution, Command) api.Errno
}

// operations returns the operations by their words.
func operations() map[string]operation {
	return map[string]operation{
		opArm:     {hasName: true, execute: (*execution).arm},
		opDisarm:  {hasName: true, execute: (*execution).disarm},
		opWait:    {least: 1, most: MaxWait, execute: (*execution).wait},
		opTrigger: {execute: (*execution).trigger},
		opRepeat:  {least: 1, most: MaxRepeat},
		opEnd:     {},
	}
}

// hasCount reports whether a command has a count.
func (o operation) hasCount() bool {
	return o.most > 0
}

// forms returns the forms of the words that follow the first one.
func (o operation) forms() []func(string) bool {
	var forms []func(string) bool
	if o.hasName {
		forms = append(forms, isWord)
	}
	if o.hasCount() {
		forms = append(forms, isInteger)
	}
	return forms
}

// check returns the first error of a command of this operation.
func (o operation) check(c Command) api.Errno {
	if o.hasName {
		return common.FirstError(checkName(c.Name), common.InRange(c.Count, o.least, o.most))
	}
	return common.FirstError(common.ErrorIf(c.Name != "", api.ErrForm), common.InRange(c.Count, o.least, o.most))
}
