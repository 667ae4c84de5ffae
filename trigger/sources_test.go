package trigger_test

import (
	"math/rand"
	"slices"
	"strconv"
	"strings"
	"testing"

	"strobe/api"
	"strobe/trigger"
)

// written returns the printed source of a program.
func written(p trigger.Program) string {
	text := "lines " + strconv.Itoa(p.Lines) + ";"
	for _, s := range p.Steps {
		text += " " + writtenCond(s.Cond)
		if s.Times != 1 {
			text += " times " + strconv.Itoa(s.Times)
		}
		if s.Within != 0 {
			text += " within " + strconv.Itoa(s.Within)
		}
		text += ";"
	}
	return text
}

// writtenCond returns the printed source of a condition.
func writtenCond(c trigger.Cond) string {
	switch c.Kind {
	case "high", "low", "rise", "fall":
		return c.Kind + " " + strconv.Itoa(c.A)
	case "pattern", "enter":
		return c.Kind + " " + c.Pattern
	case "pulse", "gap":
		return c.Kind + " " + strconv.Itoa(c.A) + " " + strconv.Itoa(c.Min) + " " + strconv.Itoa(c.Max)
	case "idle":
		return c.Kind + " " + strconv.Itoa(c.A) + " " + strconv.Itoa(c.Min)
	case "setup":
		return c.Kind + " " + strconv.Itoa(c.A) + " " + strconv.Itoa(c.B) + " " + strconv.Itoa(c.Min)
	case "runt":
		return c.Kind + " " + strconv.Itoa(c.A) + " " + strconv.Itoa(c.B)
	}
	var elements []string
	for _, element := range c.Kids {
		elements = append(elements, writtenCond(element))
	}
	return c.Kind + "(" + strings.Join(elements, ", ") + ")"
}

// permitted returns what the grammar puts in the place of a symbol before a token; the token itself means that it is read.
func permitted(symbol, token string) ([]string, bool) {
	switch symbol {
	case "STEPS":
		if token == "" {
			return nil, true
		}
		return []string{"COND", "TIMES", "WITHIN", ";", "STEPS"}, true
	case "TIMES", "WITHIN":
		if token == strings.ToLower(symbol) {
			return []string{token, "NUMBER"}, true
		}
		return nil, true
	case "MORE":
		if token == "," {
			return []string{",", "COND", "MORE"}, true
		}
		return nil, true
	case "COND":
		switch token {
		case "high", "low", "rise", "fall":
			return []string{token, "NUMBER"}, true
		case "pattern", "enter":
			return []string{token, "WORD"}, true
		case "pulse", "gap", "setup":
			return []string{token, "NUMBER", "NUMBER", "NUMBER"}, true
		case "idle", "runt":
			return []string{token, "NUMBER", "NUMBER"}, true
		case "not":
			return []string{token, "(", "COND", ")"}, true
		case "all", "any":
			return []string{token, "(", "COND", "MORE", ")"}, true
		}
	case "NUMBER":
		isNumber := token == "0" || token != "" && len(token) <= 9 && token[0] != '0' && strings.Trim(token, "0123456789") == ""
		return []string{token}, isNumber
	case "WORD":
		return []string{token}, token != "" && strings.Trim(token, "abcdefghijklmnopqrstuvwxyz0123456789") == ""
	}
	return nil, false
}

// syntaxError returns the byte offset of the first error of a source, or -1: it reads the tokens with a stack of what has to follow.
func syntaxError(source string) int {
	stack := []string{"lines", "NUMBER", ";", "STEPS"}
	at := 0
	for {
		for at < len(source) && (source[at] == ' ' || source[at] == '\n') {
			at++
		}
		end := at
		for end < len(source) && strings.IndexByte("abcdefghijklmnopqrstuvwxyz0123456789", source[end]) >= 0 {
			end++
		}
		if end == at && at < len(source) {
			end++
		}
		token := source[at:end]
		for {
			if len(stack) == 0 {
				return -1
			}
			top := stack[0]
			if top == token && token != "" {
				stack, at = stack[1:], end
				break
			}
			more, ok := permitted(top, token)
			if !ok {
				return at
			}
			stack = append(slices.Clone(more), stack[1:]...)
		}
	}
}

// P4.1: the examples 5 of the chapter, and tokens that the grammar does not permit.
func TestSyntaxErrors(t *testing.T) {
	for _, row := range []struct {
		source string
		at     int
	}{
		{"lines 1; rize 0;", 9}, {"lines 1; rise 0", 15}, {"", 0}, {" \n ", 3}, {"lines", 5}, {"lines ", 6}, {"lines 1", 7}, {"lines 1 ", 8}, {"line 1;", 0}, {" lines1;", 1}, {"lines;", 5}, {"lines x;", 6}, {"lines 01; high 0;", 6}, {"lines 00;", 6}, {"lines 1234567890;", 6}, {"lines 1a;", 6}, {"lines -1;", 6}, {"lines 1; rise 1_0;", 15}, {"Lines 1;", 0}, {"lines 1, high 0;", 7},
		{"lines 1; rise 0 \t;", 16}, {"lines 1; rise 0;\r\n", 16}, {"lines 1; rise 0;\x00", 16}, {"lines 1; rise é;", 14}, {"lines 1; rise\u00a00;", 13}, {"lines 1; rise 0\xff;", 15}, {"lines 1; rise 0$;", 15}, {"lines 1; rize$ 0;", 9}, {"lines 1; rise 0 # no;", 16},
		{"lines 1;;", 8}, {"lines 1; ; rise 0;", 9}, {"lines 1; rise 0;;", 16}, {"lines 1; rise;", 13}, {"lines 1; rise a;", 14}, {"lines 1; rise 0 1;", 16}, {"lines 1; rise 0 rise 0;", 16}, {"lines 1; lines 1;", 9}, {"lines 1; times 1;", 9},
		{"lines 1; rise 0 times;", 21}, {"lines 1; rise 0 times 2 times 2;", 24}, {"lines 1; rise 0 within 2 times 2;", 25}, {"lines 1; rise 0 within x;", 23}, {"lines 1; rise 0 within 2 within 2;", 25}, {"lines 1; rise 0 time 2;", 16},
		{"lines 1; pattern;", 16}, {"lines 1; pattern (;", 17}, {"lines 1; pattern {;", 17}, {"lines 1; pattern `;", 17}, {"lines 1; pattern /;", 17}, {"lines 1; pattern :;", 17}, {"lines 1; enter 0 1;", 17}, {"lines 1; pulse 0 1;", 18}, {"lines 1; pulse 0 1 1 1;", 21}, {"lines 1; idle 0;", 15}, {"lines 1; idle 0 1 1;", 18}, {"lines 1; setup 0 1;", 18}, {"lines 1; runt 0;", 15}, {"lines 1; runt 0 1 1;", 18},
		{"lines 1; not rise 0;", 13}, {"lines 1; not();", 13}, {"lines 1; not(rise 0;", 19}, {"lines 1; not(rise 0, rise 0);", 19}, {"lines 1; not(rise 0 times 2);", 20}, {"lines 1; not(rise 0", 19}, {"lines 1; all();", 13}, {"lines 1; all(rise 0,);", 20}, {"lines 1; all(,rise 0);", 13}, {"lines 1; any(rise 0 rise 0);", 20}, {"lines 1; any rise 0;", 13}, {"lines 1; any(rise 0));", 20}, {"lines 1; (rise 0);", 9}, {"lines 1; any(any(any(any(any(any(rise 0)))))", 44},
		// The syntax is examined before the program: these have other errors, too.
		{"lines 0; rise 99; rise", 22}, {"lines 99; all(rise 0", 20},
	} {
		sameProgram(t, row.source, trigger.Program{}, row.at, api.ErrSyntax)
		same(t, "the reference", syntaxError(row.source), 0, row.at, 0)
	}
}

// P4.1: sources with other blanks than a printed one.
func TestParse(t *testing.T) {
	wanted := trigger.Program{Lines: 2, Steps: []trigger.Step{{Cond: joined("all", high(0), trigger.Cond{Kind: "pattern", Pattern: "1x"}), Times: 1}, {Cond: trigger.Cond{Kind: "runt", A: 1}, Times: 3, Within: 4}}}
	for _, source := range []string{
		"lines 2; all(high 0, pattern 1x); runt 1 0 times 3 within 4;", "lines 2;all(high 0,pattern 1x);runt 1 0 times 3 within 4;", "\n\nlines\n2\n;\nall\n(\nhigh\n0\n,\npattern\n1x\n)\n;\nrunt\n1\n0\ntimes\n3\nwithin\n4\n;\n\n",
		"   lines 2  ; all (  high 0  , pattern 1x )times 1 within 0  ; runt 1 0 times 3 within 4 ; ", "lines 2; all(high 0, pattern 1x) within 0; runt 1 0 times 3 within 4;",
	} {
		sameProgram(t, source, wanted, 0, api.OK)
	}
	for _, s := range []trigger.Step{{Cond: high(1), Times: 1}, {Cond: trigger.Cond{Kind: "idle", Min: 255}, Times: 64}, {Cond: joined("any", joined("not", high(1)), high(0)), Times: 1}} {
		p := trigger.Program{Lines: 2, Steps: []trigger.Step{s}}
		sameProgram(t, written(p), p, 0, api.OK)
	}
}

// P4.1: sources of programs with an error.
func TestParseErrors(t *testing.T) {
	for source, e := range map[string]api.Errno{
		"lines 1;": api.ErrEmpty, "lines 0; rise 0;": api.ErrRange, "lines 17; rise 0;": api.ErrRange, "lines 999999999;": api.ErrRange, "lines 1; rise 1;": api.ErrRange, "lines 1; rise 999999999;": api.ErrRange, "lines 1; rise 0 times 0;": api.ErrRange, "lines 1; rise 0 times 65;": api.ErrRange, "lines 1; rise 0 within 1;": api.ErrRange, "lines 1; rise 0; rise 0 within 256;": api.ErrRange,
		"lines 2; pattern 0;": api.ErrForm, "lines 2; pattern times;": api.ErrForm, "lines 2; enter 0123456789;": api.ErrForm, "lines 2; enter lines times 2;": api.ErrForm, "lines 1; pattern z;": api.ErrForm, "lines 1; pattern a;": api.ErrForm, "lines 1; pattern 9;": api.ErrForm, "lines 1; enter abcdefghijklmnopqrstuvwxyz0123456789;": api.ErrForm, "lines 1; pulse 0 2 1;": api.ErrOrder, "lines 2; runt 1 1;": api.ErrTwice, "lines 1; not(not(not(not(rise 0))));": api.ErrMany, "lines 1; all(low 0, low 0, low 0, low 0, low 0, low 0, low 0, low 0, low 0);": api.ErrMany,
		"lines 1;" + strings.Repeat("low 0;", 9): api.ErrMany, "lines 1;" + strings.Repeat("not(", 800) + "low 0" + strings.Repeat(")", 800) + ";": api.ErrMany, "lines 1; any(" + strings.Repeat("low 0,", 600) + "low 0);": api.ErrMany,
	} {
		sameProgram(t, source, trigger.Program{}, 0, e)
	}
	longest := "lines 1; rise 0;" + strings.Repeat(" ", 4080)
	sameProgram(t, longest, one(1, trigger.Cond{Kind: "rise"}), 0, api.OK)
	sameProgram(t, longest+" ", trigger.Program{}, 0, api.ErrLong)
	sameProgram(t, longest[1:]+" ", trigger.Program{}, 0, api.ErrSyntax)
	sameProgram(t, strings.Repeat(" ", 4096), trigger.Program{}, 4096, api.ErrSyntax)
	sameProgram(t, strings.Repeat("$", 4097), trigger.Program{}, 0, api.ErrLong)
	sameProgram(t, strings.Repeat("\n", 4095)+"\xff", trigger.Program{}, 4095, api.ErrSyntax)
	sameProgram(t, "lines 1;"+strings.Repeat("not(", 1022), trigger.Program{}, 4096, api.ErrSyntax)
}

// changed returns a source in which some tokens or bytes are left out, repeated or replaced.
func changed(r *rand.Rand, source string) string {
	words := []string{"lines", "0", "1", "7", "10", "007", "1234567890", ";", "(", ")", ",", "times", "within", "high", "pattern", "pulse", "idle", "setup", "runt", "not", "all", "any", "01x", "$", "\t", "\n", " ", "é", "\xff", "A", ""}
	for range r.Intn(3) {
		from := r.Intn(len(source) + 1)
		to := min(from+r.Intn(6), len(source))
		if r.Intn(2) == 0 {
			from = max(strings.LastIndexByte(source[:from], ' '), 0)
		}
		source = source[:from] + words[r.Intn(len(words))] + source[to:]
	}
	return source
}

// P4.1: changed sources by the grammar.
func TestParseByGrammar(t *testing.T) {
	r := source(3)
	for range 20000 {
		text := changed(r, written(randomProgram(r, 1+r.Intn(4), 3, 9)))
		p, at, e := trigger.Parse(text)
		wanted := syntaxError(text)
		if wanted < 0 {
			if at != 0 || e == api.ErrSyntax || e == api.ErrLong {
				t.Errorf("Parse %q: got the error %d at %d", text, e, at)
			}
			if e == api.OK {
				same(t, "the error of the program", 0, trigger.CheckProgram(p), 0, api.OK)
				sameProgram(t, written(p), p, 0, api.OK)
			}
			continue
		}
		if at != wanted || e != api.ErrSyntax || !equalPrograms(p, trigger.Program{}) {
			t.Errorf("Parse %q: got %v, %d at %d, want the offset %d", text, p, e, at, wanted)
		}
	}
}
