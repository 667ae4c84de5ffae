package trigger_test

import (
	"math/big"
	"slices"
	"strings"
	"testing"

	"strobe/api"
	"strobe/trigger"
)

// sameErrors reports an error of a program that CheckProgram, Print, Size, Triggers or Compile does not return.
func sameErrors(t *testing.T, p trigger.Program, wanted api.Errno) {
	t.Helper()
	same(t, "CheckProgram", 0, trigger.CheckProgram(p), 0, wanted)
	source, e := trigger.Print(p)
	same(t, "Print", source, e, "", wanted)
	size, e := trigger.Size(p)
	same(t, "Size", size, e, 0, wanted)
	for _, signal := range [][]int{nil, {-1}, make([]int, 4097)} {
		times, e := trigger.Triggers(p, signal)
		sameList(t, "Triggers", times, e, nil, wanted)
	}
	a, e := trigger.Compile(p)
	sameAutomaton(t, "Compile", a, e, trigger.Automaton{}, wanted)
}

// condError is a condition of three lines, and its error.
type condError struct {
	c trigger.Cond
	e api.Errno
}

// badConds returns conditions of three lines with an error, in the order in which the chapter names the errors.
func badConds() []condError {
	l := []condError{
		{trigger.Cond{}, api.ErrKind}, {trigger.Cond{Kind: "High"}, api.ErrKind}, {trigger.Cond{Kind: "high "}, api.ErrKind}, {trigger.Cond{Kind: "\xff"}, api.ErrKind}, {trigger.Cond{Kind: "lines"}, api.ErrKind},
		{trigger.Cond{Kind: "none", A: -1, B: -1, Min: -1, Max: -1, Pattern: "z", Kids: make([]trigger.Cond, 9)}, api.ErrKind},
		{trigger.Cond{Kind: "setup", A: 1, B: 1, Min: 1}, api.ErrTwice}, {trigger.Cond{Kind: "setup", A: 1, B: 1, Min: 0}, api.ErrTwice}, {trigger.Cond{Kind: "runt", A: 2, B: 2}, api.ErrTwice}, {trigger.Cond{Kind: "runt"}, api.ErrTwice},
		{trigger.Cond{Kind: "setup", A: 3, B: 3, Min: 1}, api.ErrRange}, {trigger.Cond{Kind: "runt", A: -1, B: -1}, api.ErrRange},
		{trigger.Cond{Kind: "pulse", Min: 3, Max: 2}, api.ErrOrder}, {trigger.Cond{Kind: "gap", Min: 255, Max: 254}, api.ErrOrder}, {trigger.Cond{Kind: "gap", Min: 3, Max: 0}, api.ErrRange}, {trigger.Cond{Kind: "pulse", Min: 256, Max: 255}, api.ErrRange},
		{joined("not"), api.ErrShape}, {joined("not", high(0), high(1)), api.ErrShape}, {joined("not", high(0), high(9)), api.ErrShape}, {joined("all"), api.ErrEmpty}, {joined("any"), api.ErrEmpty},
		{joined("all", make([]trigger.Cond, 9)...), api.ErrMany}, {joined("any", slices.Repeat([]trigger.Cond{high(0)}, 9)...), api.ErrMany},
		{joined("all", high(0), high(3)), api.ErrRange}, {joined("any", high(0), trigger.Cond{Kind: "rise", B: 1}, trigger.Cond{}), api.ErrShape}, {joined("any", trigger.Cond{}, high(3)), api.ErrKind}, {joined("not", joined("all", high(0), joined("any"))), api.ErrEmpty},
		{nested(5, high(0)), api.ErrMany}, {nested(5, trigger.Cond{}), api.ErrMany}, {nested(9, trigger.Cond{}), api.ErrMany}, {nested(4, trigger.Cond{}), api.ErrKind}, {nested(4, joined("not")), api.ErrShape},
		{joined("all", high(3), nested(4, high(0))), api.ErrRange}, {joined("all", high(2), nested(4, high(0)), high(3)), api.ErrMany},
	}
	for _, pattern := range []string{"", "01", "01x1", "01y", "0 1", "X01", "01\x00", "0é", "x-1", "\xff01", "01\n"} {
		l = append(l, condError{trigger.Cond{Kind: "pattern", Pattern: pattern}, api.ErrForm}, condError{trigger.Cond{Kind: "enter", Pattern: pattern}, api.ErrForm})
	}
	for _, n := range append(far(), 3, 16, 64) {
		for _, c := range []trigger.Cond{{Kind: "high", A: n}, {Kind: "low", A: n}, {Kind: "rise", A: n}, {Kind: "fall", A: n}, {Kind: "pulse", A: n}, {Kind: "gap", A: n}, {Kind: "idle", A: n}, {Kind: "setup", A: n, B: n}, {Kind: "runt", A: n, B: n}, {Kind: "setup", B: n}, {Kind: "runt", B: n}} {
			l = append(l, condError{c, api.ErrRange})
		}
	}
	for _, n := range append(far(), 0, 256) {
		for _, c := range []trigger.Cond{{Kind: "pulse", Min: n, Max: n}, {Kind: "pulse", Min: 1, Max: n}, {Kind: "gap", Min: n, Max: 5}, {Kind: "gap", Min: 3, Max: n}, {Kind: "idle", Min: n}, {Kind: "setup", B: 1, Min: n}} {
			l = append(l, condError{c, api.ErrRange})
		}
	}
	return append(l, otherFields()...)
}

// otherFields returns conditions with a field that their kinds do not use. All of their other errors come later.
func otherFields() []condError {
	used := map[string]string{"high": "A", "low": "A", "rise": "A", "fall": "A", "pattern": "P", "enter": "P", "pulse": "AMm", "gap": "AMm", "idle": "Am", "setup": "ABm", "runt": "AB", "not": "K", "all": "K", "any": "K"}
	var l []condError
	for _, kind := range kindNames() {
		for _, field := range "ABMmPK" {
			if strings.ContainsRune(used[kind], field) {
				continue
			}
			for _, n := range []int{-1, 1, 1 << 40} {
				c := trigger.Cond{Kind: kind}
				switch field {
				case 'A':
					c.A = n
				case 'B':
					c.B = n
				case 'M':
					c.Max = n
				case 'm':
					c.Min = n
				case 'P':
					c.Pattern = "011"
				case 'K':
					c.Kids = []trigger.Cond{high(0)}
				}
				l = append(l, condError{c, api.ErrShape})
			}
		}
	}
	return l
}

// depthOf returns the greatest depth of a condition and its elements.
func depthOf(c trigger.Cond) int {
	depth := 0
	for _, element := range c.Kids {
		depth = max(depth, depthOf(element))
	}
	return depth + 1
}

// P4.1: the errors of conditions, at all depths.
func TestErrorsOfConditions(t *testing.T) {
	for _, row := range badConds() {
		sameErrors(t, one(3, row.c), row.e)
		sameErrors(t, trigger.Program{Lines: 3, Steps: []trigger.Step{{Cond: high(0), Times: 1}, {Cond: row.c, Times: 0, Within: -1}}}, row.e)
		holds, e := trigger.Holds(3, row.c, []int{8})
		sameList(t, "Holds", holds, e, nil, row.e)
		if row.e == api.ErrMany || depthOf(row.c) == trigger.MaxDepth {
			continue
		}
		same(t, "an element", 0, trigger.CheckProgram(one(3, joined("any", high(0), row.c, trigger.Cond{}))), 0, row.e)
	}
}

// P4.1: conditions at their limits have no error.
func TestConditionsAtTheirLimits(t *testing.T) {
	for _, c := range []trigger.Cond{
		high(2), {Kind: "pulse", A: 2, Min: 1, Max: 1}, {Kind: "gap", Min: 255, Max: 255}, {Kind: "pulse", Min: 1, Max: 255}, {Kind: "idle", A: 2, Min: 255}, {Kind: "idle", Min: 1}, {Kind: "setup", A: 2, B: 0, Min: 255}, {Kind: "setup", A: 0, B: 2, Min: 1}, {Kind: "runt", A: 2, B: 1},
		{Kind: "pattern", Pattern: "xxx"}, {Kind: "enter", Pattern: "01x"}, nested(4, high(0)), full(high(1)), {Kind: "high", Kids: []trigger.Cond{}}, joined("all", high(0)), joined("any", high(0)),
	} {
		for _, s := range []trigger.Step{{Cond: c, Times: 1}, {Cond: c, Times: 64}, {Cond: c, Times: 1, Within: 255}} {
			p := trigger.Program{Lines: 3, Steps: append(slices.Repeat([]trigger.Step{{Cond: high(0), Times: 1}}, 7), s)}
			same(t, "CheckProgram", 0, trigger.CheckProgram(p), 0, api.OK)
		}
	}
	same(t, "the pattern of 16 lines", 0, trigger.CheckProgram(one(16, trigger.Cond{Kind: "enter", Pattern: "0123456789abcdef"[:2] + "xxxxxxxxxxxxxx"})), 0, api.OK)
	same(t, "the last of 16 lines", 0, trigger.CheckProgram(one(16, high(15))), 0, api.OK)
	same(t, "the only line", 0, trigger.CheckProgram(one(1, high(0))), 0, api.OK)
	// A condition may contain the list that contains it: its depth is above every limit.
	endless := joined("all", high(0))
	endless.Kids[0] = endless
	sameErrors(t, one(1, endless), api.ErrMany)
}

// P4.1: the errors of programs and steps, in their order.
func TestErrorsOfPrograms(t *testing.T) {
	good, bad := trigger.Step{Cond: high(0), Times: 1}, trigger.Step{Cond: trigger.Cond{Kind: "bad"}}
	for _, lines := range append(far(), 0, 17, 64) {
		for _, steps := range [][]trigger.Step{nil, {good}, {bad}, make([]trigger.Step, 9)} {
			sameErrors(t, trigger.Program{Lines: lines, Steps: steps}, api.ErrRange)
		}
	}
	for _, row := range []struct {
		steps []trigger.Step
		e     api.Errno
	}{
		{nil, api.ErrEmpty}, {make([]trigger.Step, 9), api.ErrMany}, {slices.Repeat([]trigger.Step{good}, 9), api.ErrMany},
		{[]trigger.Step{good, bad}, api.ErrKind}, {[]trigger.Step{{Cond: high(16)}, bad}, api.ErrRange}, {[]trigger.Step{good, {Cond: joined("all"), Times: 65}, bad}, api.ErrEmpty},
		{[]trigger.Step{{Cond: high(0), Times: 1, Within: 1}, bad}, api.ErrRange}, {[]trigger.Step{good, {Cond: high(0), Times: 65}, bad}, api.ErrRange},
	} {
		sameErrors(t, trigger.Program{Lines: 16, Steps: row.steps}, row.e)
	}
	for _, n := range far() {
		for _, s := range []trigger.Step{{Cond: high(0), Times: n}, {Cond: high(0), Times: 1, Within: n}} {
			sameErrors(t, trigger.Program{Lines: 4, Steps: []trigger.Step{s}}, api.ErrRange)
			sameErrors(t, trigger.Program{Lines: 4, Steps: []trigger.Step{good, s, bad}}, api.ErrRange)
		}
	}
	for _, s := range []trigger.Step{{Cond: high(0), Times: 0}, {Cond: high(0), Times: 65}, {Cond: high(0), Times: 1, Within: 256}} {
		sameErrors(t, trigger.Program{Lines: 4, Steps: []trigger.Step{s}}, api.ErrRange)
		sameErrors(t, trigger.Program{Lines: 4, Steps: []trigger.Step{good, good, s}}, api.ErrRange)
	}
}

// condSize returns the size of a condition, whatever it is.
func condSize(c trigger.Cond) *big.Int {
	switch c.Kind {
	case "pulse", "gap":
		return big.NewInt(int64(c.Max + 3))
	case "idle", "setup":
		return big.NewInt(int64(c.Min + 2))
	case "runt":
		return big.NewInt(4)
	}
	size := big.NewInt(1)
	for _, element := range c.Kids {
		size.Mul(size, condSize(element))
	}
	return size
}

// sizeOf returns the size of a program, or MaxSize + 1.
func sizeOf(p trigger.Program) int {
	size, places := big.NewInt(1<<p.Lines+1), int64(0)
	for _, s := range p.Steps {
		size.Mul(size, condSize(s.Cond))
		places += int64(s.Times * (s.Within + 1))
	}
	size.Mul(size, big.NewInt(places))
	if size.Cmp(big.NewInt(trigger.MaxSize)) > 0 {
		return trigger.MaxSize + 1
	}
	return int(size.Int64())
}

// P4.1: the sizes of programs.
func TestSize(t *testing.T) {
	for source, wanted := range map[string]int{
		"lines 1; rise 0;": 3, "lines 4; low 0;": 17, "lines 2; pattern 0x;": 5, "lines 2; enter 0x times 7;": 35, "lines 1; pulse 0 1 5;": 24, "lines 1; gap 0 5 5;": 24, "lines 1; idle 0 4;": 18, "lines 2; setup 0 1 3;": 25, "lines 2; runt 0 1;": 20,
		"lines 2; not(runt 0 1);": 20, "lines 2; all(runt 0 1, idle 0 1, high 0);": 60, "lines 2; any(runt 0 1, not(any(runt 1 0, fall 0)));": 80,
		"lines 1; high 0; low 0 times 2 within 3;": 27, "lines 1; high 0 times 3; idle 0 1 within 255; idle 0 1;": 3 * 9 * 260,
		"lines 4; idle 0 255 times 15;": 65535, "lines 4; idle 0 239 times 16;": 65537, "lines 15; high 0;": 32769, "lines 15; high 0 times 2;": 65537, "lines 16; high 0;": 65537, "lines 1; gap 0 1 255; gap 0 1 255;": 65537,
	} {
		size, e := trigger.Size(parsed(t, source))
		same(t, "Size of "+source, size, e, wanted, api.OK)
	}
	most := trigger.Program{Lines: 16, Steps: slices.Repeat([]trigger.Step{{Cond: full(trigger.Cond{Kind: "pulse", Min: 255, Max: 255}), Times: 64}}, 8)}
	size, e := trigger.Size(most)
	same(t, "Size of the greatest program", size, e, 65537, api.OK)
	r := source(1)
	for range 3000 {
		p := randomProgram(r, 1+r.Intn(16), 3, 1+r.Intn(20))
		size, e := trigger.Size(p)
		same(t, "Size", size, e, sizeOf(p), api.OK)
	}
}

// P4.1: printed sources.
func TestPrint(t *testing.T) {
	steps := []trigger.Step{
		{Cond: joined("all", high(0), joined("not", trigger.Cond{Kind: "low", A: 15}), joined("any", trigger.Cond{Kind: "pattern", Pattern: "0123"[:2] + "xxxxxxxxxxxxxx"})), Times: 2},
		{Cond: trigger.Cond{Kind: "pulse", A: 1, Min: 2, Max: 255}, Times: 1, Within: 7}, {Cond: trigger.Cond{Kind: "gap", Min: 2, Max: 2}, Times: 64, Within: 255}, {Cond: trigger.Cond{Kind: "idle", A: 3, Min: 4}, Times: 1},
		{Cond: trigger.Cond{Kind: "setup", A: 3, B: 10, Min: 4}, Times: 1}, {Cond: trigger.Cond{Kind: "runt", A: 3, B: 0}, Times: 1}, {Cond: trigger.Cond{Kind: "rise", A: 9}, Times: 10}, {Cond: joined("not", trigger.Cond{Kind: "fall"}), Times: 1, Within: 1},
	}
	source, e := trigger.Print(trigger.Program{Lines: 16, Steps: steps})
	wanted := "lines 16; all(high 0, not(low 15), any(pattern 01xxxxxxxxxxxxxx)) times 2; pulse 1 2 255 within 7; gap 0 2 2 times 64 within 255; idle 3 4; setup 3 10 4; runt 3 0; rise 9 times 10; not(fall 0) within 1;"
	same(t, "Print", source, e, wanted, api.OK)
	sameProgram(t, wanted, trigger.Program{Lines: 16, Steps: steps}, 0, api.OK)
	source, e = trigger.Print(one(1, trigger.Cond{Kind: "rise"}))
	same(t, "Print", source, e, "lines 1; rise 0;", api.OK)
	source, e = trigger.Print(one(1, nested(4, trigger.Cond{Kind: "enter", Pattern: "x"})))
	same(t, "Print", source, e, "lines 1; not(not(not(enter x)));", api.OK)
}

// grown returns a program with 448 elements, of which the source of each of the first n ones is a byte longer than that of the others.
func grown(n int) trigger.Program {
	var element func(int) trigger.Cond
	element = func(depth int) trigger.Cond {
		if depth == 0 {
			n--
			if n >= 0 {
				return high(10)
			}
			return high(0)
		}
		c := trigger.Cond{Kind: "any"}
		for range 8 {
			c.Kids = append(c.Kids, element(depth-1))
		}
		return c
	}
	p := trigger.Program{Lines: 16}
	for range 7 {
		p.Steps = append(p.Steps, trigger.Step{Cond: element(2), Times: 1})
	}
	return p
}

// P4.1: the longest printed source.
func TestPrintLong(t *testing.T) {
	first := len(written(grown(0)))
	longest := api.MaxText - first
	if longest < 1 || longest > 446 {
		t.Fatalf("the source has %d bytes", first)
	}
	for n := longest - 1; n <= longest+2; n++ {
		checkPrinted(t, grown(n))
	}
	sameProgram(t, written(grown(longest)), grown(longest), 0, api.OK)
	sameProgram(t, written(grown(longest+1)), trigger.Program{}, 0, api.ErrLong)
	checkPrinted(t, trigger.Program{Lines: 16, Steps: slices.Repeat([]trigger.Step{{Cond: full(high(1)), Times: 1}}, 8)})
}

// checkPrinted compares the source of a program with one that is written by other means.
func checkPrinted(t *testing.T, p trigger.Program) {
	t.Helper()
	wanted, wantedError := written(p), api.OK
	if len(wanted) > api.MaxText {
		wanted, wantedError = "", api.ErrLong
	}
	source, e := trigger.Print(p)
	same(t, "Print", source, e, wanted, wantedError)
}

// P4.1: sources by other means.
func TestPrintByOtherMeans(t *testing.T) {
	r := source(2)
	for range 3000 {
		checkPrinted(t, randomProgram(r, 1+r.Intn(16), 8, 255))
	}
}
