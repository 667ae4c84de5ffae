package bench

import (
	"iter"

	"strobe/api"
	"strobe/common"
)

// CheckScript returns the first error of a script, or OK.
func CheckScript(l []Command) api.Errno {
	if e := common.AtMost(l, MaxCommands); e != api.OK {
		return e
	}
	known := operations()
	for _, c := range l {
		o, isKnown := known[c.Op]
		if !isKnown {
			return api.ErrKind
		}
		if e := o.check(c); e != api.OK {
			return e
		}
	}
	if e := checkBodies(l); e != api.OK {
		return e
	}
	return common.ErrorIf(length(l) > MaxLength, api.ErrLimit)
}

// checkBodies returns the first error of the bodies of a script.
func checkBodies(l []Command) api.Errno {
	depth := 0
	for _, c := range l {
		switch c.Op {
		case opRepeat:
			if depth == MaxDepth {
				return api.ErrLimit
			}
			depth++
		case opEnd:
			if depth == 0 {
				return api.ErrShape
			}
			depth--
		}
	}
	return common.ErrorIf(depth > 0, api.ErrShape)
}

// length returns the length of a script.
func length(l []Command) int {
	sum := 0
	for c, body := range parts(l) {
		if c.Op == opRepeat {
			sum += c.Count * (1 + length(body))
		} else {
			sum++
		}
	}
	return sum
}

// parts gives the commands of a script that are in no body, in order, a repeat together with its body. Each body has an end.
func parts(l []Command) iter.Seq2[Command, []Command] {
	return func(yield func(Command, []Command) bool) {
		for at := 0; at < len(l); {
			end := endOf(l, at)
			// A command without a body ends where it begins.
			if !yield(l[at], l[min(at+1, end):end]) {
				return
			}
			at = end + 1
		}
	}
}

// endOf returns the index of the end that matches the repeat at an index, or the index of a command that is no repeat.
func endOf(l []Command, start int) int {
	end, depth := start, 0
search:
	for i, c := range l[start:] {
		switch c.Op {
		case opRepeat:
			depth++
		case opEnd:
			depth--
		}
		if depth == 0 {
			end = start + i
			break search
		}
	}
	return end
}

// executed gives the commands of a script in the order of their execution: in place of a repeat, those of its body, as often as
// it says.
func executed(l []Command) iter.Seq[Command] {
	return func(yield func(Command) bool) {
		for c, body := range parts(l) {
			if c.Op != opRepeat {
				if !yield(c) {
					return
				}
				continue
			}
			for range c.Count {
				for inner := range executed(body) {
					if !yield(inner) {
						return
					}
				}
			}
		}
	}
}
