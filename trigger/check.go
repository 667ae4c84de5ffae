package trigger

import (
	"slices"
	"strings"

	"strobe/api"
	"strobe/common"
)

// CheckProgram returns the first error of a program, or OK.
func CheckProgram(p Program) api.Errno {
	if e := checkLines(p.Lines); e != api.OK {
		return e
	}
	if len(p.Steps) == 0 {
		return api.ErrEmpty
	}
	if e := common.AtMost(p.Steps, MaxSteps); e != api.OK {
		return e
	}
	for i, s := range p.Steps {
		longest := MaxWidth
		if i == 0 {
			longest = 0
		}
		e := common.FirstError(
			checkCond(s.Cond, p.Lines, 1),
			common.InRange(s.Times, 1, MaxTimes),
			common.InRange(s.Within, 0, longest),
		)
		if e != api.OK {
			return e
		}
	}
	return api.OK
}

// checkLines returns the error of a number of lines.
func checkLines(lines int) api.Errno {
	return common.InRange(lines, 1, api.MaxLines)
}

// checkCond returns the error of a condition at a depth.
func checkCond(c Cond, lines, depth int) api.Errno {
	if depth > MaxDepth {
		return api.ErrMany
	}
	k, isKind := kinds()[c.Kind]
	if !isKind {
		return api.ErrKind
	}
	if hasOtherFields(c, k.fields) {
		return api.ErrShape
	}
	for _, field := range k.fields {
		if e := checkField(c, field, lines, depth); e != api.OK {
			return e
		}
	}
	return api.OK
}

// hasOtherFields reports whether a condition has a field with a value whose letter is not among some fields.
func hasOtherFields(c Cond, fields string) bool {
	for _, field := range fields {
		switch field {
		case fieldPattern:
			c.Pattern = ""
		case fieldElement, fieldElements:
			c.Kids = nil
		default:
			*c.number(field) = 0
		}
	}
	return [4]int{c.A, c.B, c.Min, c.Max} != [4]int{} || c.Pattern != "" || len(c.Kids) > 0
}

// checkField returns the error of a field of a condition at a depth, given that those before it have none.
func checkField(c Cond, field rune, lines, depth int) api.Errno {
	switch field {
	case fieldA:
		return common.InRange(c.A, 0, lines-1)
	case fieldB:
		return common.FirstError(common.InRange(c.B, 0, lines-1), common.ErrorIf(c.A == c.B, api.ErrTwice))
	case fieldMin:
		return common.InRange(c.Min, 1, MaxWidth)
	case fieldMax:
		return common.FirstError(common.InRange(c.Max, 1, MaxWidth), common.ErrorIf(c.Min > c.Max, api.ErrOrder))
	case fieldPattern:
		return common.ErrorIf(len(c.Pattern) != lines || strings.Trim(c.Pattern, "01x") != "", api.ErrForm)
	case fieldElement:
		if len(c.Kids) != 1 {
			return api.ErrShape
		}
	case fieldElements:
		if e := common.FirstError(common.ErrorIf(len(c.Kids) == 0, api.ErrEmpty), common.AtMost(c.Kids, MaxKids)); e != api.OK {
			return e
		}
	}
	for _, element := range c.Kids {
		if e := checkCond(element, lines, depth+1); e != api.OK {
			return e
		}
	}
	return api.OK
}

// checkSignal returns the error of a signal of a valid number of lines.
func checkSignal(signal []int, lines int) api.Errno {
	if e := common.AtMost(signal, MaxSignal); e != api.OK {
		return e
	}
	for _, symbol := range signal {
		if e := common.InRange(symbol, 0, 1<<lines-1); e != api.OK {
			return e
		}
	}
	return api.OK
}

// CheckAutomaton returns the first error of an automaton, or OK.
func CheckAutomaton(a Automaton) api.Errno {
	e := common.FirstError(
		common.InRange(a.Lines, 1, MaxBits),
		common.ErrorIf(len(a.Next) == 0, api.ErrEmpty),
		common.AtMost(a.Next, api.MaxStates),
		common.ErrorIf(len(a.Fires) != len(a.Next), api.ErrShape),
	)
	if e != api.OK {
		return e
	}
	symbols := 1 << a.Lines
	for s, next := range a.Next {
		if len(next) != symbols || len(a.Fires[s]) != symbols {
			return api.ErrShape
		}
		if slices.ContainsFunc(next, func(to int) bool { return !a.has(to) }) {
			return api.ErrUnknown
		}
	}
	return api.OK
}

// has reports whether an automaton has a state.
func (a Automaton) has(state int) bool {
	return state >= 0 && state < len(a.Next)
}

// checkInput returns the error of an automaton, or that of a signal.
func checkInput(a Automaton, signal []int) api.Errno {
	if e := CheckAutomaton(a); e != api.OK {
		return e
	}
	return checkSignal(signal, a.Lines)
}

// checkTwo returns the error of two automata, and ErrShape if their numbers of lines differ.
func checkTwo(a, b Automaton) api.Errno {
	return common.FirstError(CheckAutomaton(a), CheckAutomaton(b), common.ErrorIf(a.Lines != b.Lines, api.ErrShape))
}
