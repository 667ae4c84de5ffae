package bench_test

import (
	"cmp"
	"fmt"
	"math/big"
	"regexp"
	"slices"
	"strconv"
	"strings"

	"strobe/api"
	"strobe/bench"
	"strobe/number"
)

// referenceSum returns the checksum as the value of a polynomial whose coefficients are the bytes.
func referenceSum(s string) string {
	value := big.NewInt(1)
	for i := range len(s) {
		value.Add(value.Mul(value, big.NewInt(271)), big.NewInt(int64(s[i])))
	}
	return fmt.Sprintf("%07d", value.Mod(value, big.NewInt(9999937)))
}

// summed returns the lines of a file with the line of their checksum.
func summed(lines string) string { return lines + "sum " + referenceSum(lines) + "\n" }

// referenceFile returns the file of a set-up, whether it is valid or not.
func referenceFile(s bench.Setup) string {
	lines := "setup " + s.Name + "\n"
	for _, x := range s.Instruments {
		lines += fmt.Sprintf("instrument %s %d\n", x.Name, x.Delay)
	}
	return summed(lines + fmt.Sprintf("window %d %d\nlevel %s\n", s.Pre, s.Post, s.Level))
}

// The forms of the lines of a file: of the first one, of those of instruments, and of the last three.
var (
	setupForm      = regexp.MustCompile(`(?s)^setup ([^ ]+)$`)
	instrumentForm = regexp.MustCompile(`(?s)^instrument ([^ ]+) (0|[1-9][0-9]{0,8})$`)
	otherForms     = []*regexp.Regexp{regexp.MustCompile(`^window (0|[1-9][0-9]{0,8}) (0|[1-9][0-9]{0,8})$`), regexp.MustCompile(`(?s)^level ([^ ]+)$`), regexp.MustCompile(`^sum ([0-9]{7})$`)}
)

// referenceParseSetup reads a file line by line.
func referenceParseSetup(file string) (bench.Setup, int, api.Errno) {
	if len(file) > 4096 {
		return bench.Setup{}, 0, api.ErrLong
	}
	if file == "" || file[len(file)-1] != '\n' {
		return bench.Setup{}, 0, api.ErrTorn
	}
	lines := strings.Split(file[:len(file)-1], "\n")
	forms := []*regexp.Regexp{setupForm}
	for i := 1; i < len(lines) && (lines[i] == "instrument" || strings.HasPrefix(lines[i], "instrument ")); i++ {
		forms = append(forms, instrumentForm)
	}
	forms = append(forms, otherForms...)
	var found [][]string
	for i, form := range forms {
		if i >= len(lines) || !form.MatchString(lines[i]) {
			return bench.Setup{}, i + 1, api.ErrSyntax
		}
		found = append(found, form.FindStringSubmatch(lines[i]))
	}
	if len(lines) > len(forms) {
		return bench.Setup{}, len(forms) + 1, api.ErrSyntax
	}
	s := setupOf(found)
	if summed(strings.Join(lines[:len(lines)-1], "\n")+"\n") != file {
		return bench.Setup{}, len(lines), api.ErrCheck
	}
	if e := referenceCheckSetup(s); e != api.OK {
		return bench.Setup{}, 0, e
	}
	return s, 0, api.OK
}

// setupOf returns the set-up with the parts of lines that have their form.
func setupOf(found [][]string) bench.Setup {
	n := len(found)
	s := bench.Setup{Name: found[0][1], Pre: valueOf(found[n-3][1]), Post: valueOf(found[n-3][2]), Level: api.Rat(found[n-2][1])}
	for _, x := range found[1 : n-3] {
		s.Instruments = append(s.Instruments, bench.Instrument{Name: x[1], Delay: valueOf(x[2])})
	}
	return s
}

// valueOf returns a decimal integer.
func valueOf(s string) int {
	n, err := strconv.Atoi(s)
	if err != nil {
		panic(err)
	}
	return n
}

// referenceCheckSetup returns the first error of a set-up.
func referenceCheckSetup(s bench.Setup) api.Errno {
	if !number.IsName(s.Name) {
		return api.ErrName
	}
	if len(s.Instruments) > 16 {
		return api.ErrMany
	}
	known := map[string]bool{}
	for _, x := range s.Instruments {
		if !number.IsName(x.Name) {
			return api.ErrName
		}
		if known[x.Name] {
			return api.ErrTwice
		}
		known[x.Name] = true
		if x.Delay < 0 || x.Delay > 100000 {
			return api.ErrRange
		}
	}
	if s.Pre < 0 || s.Pre > 4096 || s.Post < 0 || s.Post > 4096 {
		return api.ErrRange
	}
	return number.Check(s.Level)
}

// referenceCheckScript returns the first error of a script. The length is the number of steps of its execution.
func referenceCheckScript(l []bench.Command) api.Errno {
	if len(l) > 64 {
		return api.ErrMany
	}
	for _, c := range l {
		if e := referenceCheckCommand(c); e != api.OK {
			return e
		}
	}
	open := 0
	for _, c := range l {
		switch {
		case c.Op == "end" && open == 0:
			return api.ErrShape
		case c.Op == "repeat" && open == 4:
			return api.ErrLimit
		case c.Op == "end":
			open--
		case c.Op == "repeat":
			open++
		}
	}
	if open > 0 {
		return api.ErrShape
	}
	steps := 0
	referenceSteps(l, func(bench.Command) bool { steps++; return steps <= 10000 })
	if steps > 10000 {
		return api.ErrLimit
	}
	return api.OK
}

// referenceCheckCommand returns the first error of a command.
func referenceCheckCommand(c bench.Command) api.Errno {
	least, most := 0, 0
	switch c.Op {
	case "arm", "disarm":
		if !number.IsName(c.Name) {
			return api.ErrName
		}
	case "wait":
		least, most = 1, 100000
	case "repeat":
		least, most = 1, 100
	case "trigger", "end":
	default:
		return api.ErrKind
	}
	if c.Op != "arm" && c.Op != "disarm" && c.Name != "" {
		return api.ErrForm
	}
	if c.Count < least || c.Count > most {
		return api.ErrRange
	}
	return api.OK
}

// referenceSteps executes a script with a stack of the bodies that it is in, until step returns false. A repeat is a step each
// time its body begins.
func referenceSteps(l []bench.Command, step func(bench.Command) bool) {
	type body struct{ start, left int }
	var in []body
	for at := 0; at < len(l); at++ {
		switch c := l[at]; c.Op {
		case "repeat":
			in = append(in, body{at, c.Count})
			if !step(c) {
				return
			}
		case "end":
			last := &in[len(in)-1]
			last.left--
			if last.left == 0 {
				in = in[:len(in)-1]
				continue
			}
			at = last.start
			if !step(l[at]) {
				return
			}
		default:
			if !step(c) {
				return
			}
		}
	}
}

// referenceSource returns the canonical source of a script, whether it is valid or not.
func referenceSource(l []bench.Command) string {
	var commands []string
	for _, c := range l {
		switch c.Op {
		case "arm", "disarm":
			commands = append(commands, c.Op+" "+c.Name)
		case "wait", "repeat":
			commands = append(commands, fmt.Sprint(c.Op, " ", c.Count))
		default:
			commands = append(commands, c.Op)
		}
	}
	return strings.Join(commands, "; ")
}

// commandForm is the form of a command with the spaces around it.
var commandForm = regexp.MustCompile(`(?s)^ *(?:(arm|disarm) +([^ ]+)|(wait|repeat) +(0|[1-9][0-9]{0,8})|(trigger|end)) *$`)

// referenceParseScript reads a source with one pattern for all commands.
func referenceParseScript(src string) ([]bench.Command, int, api.Errno) {
	if len(src) > 4096 {
		return nil, 0, api.ErrLong
	}
	var l []bench.Command
	for i, text := range strings.Split(src, ";") {
		if strings.Trim(src, " ") == "" {
			continue
		}
		parts := commandForm.FindStringSubmatch(text)
		if parts == nil {
			return nil, i + 1, api.ErrSyntax
		}
		c := bench.Command{Op: parts[1] + parts[3] + parts[5], Name: parts[2]}
		if parts[4] != "" {
			c.Count = valueOf(parts[4])
		}
		l = append(l, c)
	}
	if e := referenceCheckScript(l); e != api.OK {
		return nil, 0, e
	}
	return l, 0, api.OK
}

// referenceBench is what a bench knows of its instruments.
type referenceBench struct {
	setup  bench.Setup
	time   int
	armed  map[string]bool
	number map[string]int
}

// newReference returns a bench on which no script was executed.
func newReference(s bench.Setup) referenceBench {
	return referenceBench{s, 0, map[string]bool{}, map[string]int{}}
}

// execute returns the bench after a script, and the shots, or the bench as it is and an error.
func (b referenceBench) execute(l []bench.Command) (referenceBench, []bench.Shot, api.Errno) {
	if e := referenceCheckScript(l); e != api.OK {
		return b, nil, e
	}
	after := newReference(b.setup)
	after.time = b.time
	for _, x := range b.setup.Instruments {
		after.armed[x.Name], after.number[x.Name] = b.armed[x.Name], b.number[x.Name]
	}
	var shots []bench.Shot
	e := api.OK
	referenceSteps(l, func(c bench.Command) bool {
		e = after.step(c, &shots)
		return e == api.OK
	})
	if e != api.OK {
		return b, nil, e
	}
	return after, shots, api.OK
}

// step executes one command, and adds its shots.
func (b *referenceBench) step(c bench.Command, shots *[]bench.Shot) api.Errno {
	isKnown := slices.ContainsFunc(b.setup.Instruments, func(x bench.Instrument) bool { return x.Name == c.Name })
	switch c.Op {
	case "arm", "disarm":
		if !isKnown {
			return api.ErrUnknown
		}
		if b.armed[c.Name] == (c.Op == "arm") {
			return api.ErrState
		}
		b.armed[c.Name] = c.Op == "arm"
	case "wait":
		if b.time > 999999999-c.Count {
			return api.ErrRange
		}
		b.time += c.Count
	case "trigger":
		before := len(*shots)
		for _, x := range b.setup.Instruments {
			if b.armed[x.Name] {
				b.number[x.Name]++
				*shots = append(*shots, bench.Shot{Instrument: x.Name, Number: b.number[x.Name], Time: b.time, From: b.time + x.Delay - b.setup.Pre, To: b.time + x.Delay + b.setup.Post})
			}
		}
		if len(*shots) == before {
			return api.ErrState
		}
		if len(*shots) > 1000 {
			return api.ErrMany
		}
	}
	return api.OK
}

// referenceShots returns the shots of a script for a set-up.
func referenceShots(s bench.Setup, l []bench.Command) ([]bench.Shot, api.Errno) {
	if e := referenceCheckSetup(s); e != api.OK {
		return nil, e
	}
	_, shots, e := newReference(s).execute(l)
	return shots, e
}

// referenceCheckShots returns the error of reported shots, then ErrConflict if two of them conflict.
func referenceCheckShots(l []bench.Shot) api.Errno {
	if len(l) > 1000 {
		return api.ErrMany
	}
	for _, s := range l {
		if !number.IsName(s.Instrument) {
			return api.ErrName
		}
		if s.Number < 1 || s.Number > 1000 || s.Time < 0 || s.Time > 999999999 || min(s.From, s.To) < -999999999 || max(s.From, s.To) > 1999999998 {
			return api.ErrRange
		}
	}
	for i, s := range l {
		for _, other := range l[:i] {
			if s != other && s.Instrument == other.Instrument && s.Number == other.Number {
				return api.ErrConflict
			}
		}
	}
	return api.OK
}

// referenceCollect removes shots that are equal to one before, and sorts the others by inserting them.
func referenceCollect(l []bench.Shot) ([]bench.Shot, api.Errno) {
	if e := referenceCheckShots(l); e != api.OK {
		return nil, e
	}
	var sorted []bench.Shot
	for _, s := range l {
		if slices.Contains(sorted, s) {
			continue
		}
		at := len(sorted)
		for at > 0 && isBefore(s, sorted[at-1]) {
			at--
		}
		sorted = slices.Insert(sorted, at, s)
	}
	return sorted, api.OK
}

// isBefore reports whether a shot is before another one in the order of collected shots.
func isBefore(a, b bench.Shot) bool {
	if a.Time != b.Time {
		return a.Time < b.Time
	}
	if a.Instrument != b.Instrument {
		return a.Instrument < b.Instrument
	}
	return a.Number < b.Number
}

// referenceMissing looks for each number in all shots.
func referenceMissing(l []bench.Shot) ([]bench.Missing, api.Errno) {
	if e := referenceCheckShots(l); e != api.OK {
		return nil, e
	}
	greatest := map[string]int{}
	var instruments []string
	for _, s := range l {
		if greatest[s.Instrument] == 0 {
			instruments = append(instruments, s.Instrument)
		}
		greatest[s.Instrument] = max(greatest[s.Instrument], s.Number)
	}
	slices.SortFunc(instruments, func(a, b string) int { return cmp.Compare(a, b) })
	var missing []bench.Missing
	for _, name := range instruments {
		for n := 1; n < greatest[name]; n++ {
			if !slices.ContainsFunc(l, func(s bench.Shot) bool { return s.Instrument == name && s.Number == n }) {
				missing = append(missing, bench.Missing{Instrument: name, Number: n})
			}
		}
	}
	return missing, api.OK
}
