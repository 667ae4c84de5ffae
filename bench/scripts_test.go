package bench_test

import (
	"math/rand"
	"slices"
	"strings"
	"testing"

	"strobe/api"
	"strobe/bench"
)

// P10.2: the source, the length and the shots of the example.
func TestExampleScript(t *testing.T) {
	source, e := bench.PrintScript(exampleScript())
	same(t, "PrintScript", source, e, "arm a; repeat 2; wait 3; trigger; end; disarm a", api.OK)
	l, at, e := bench.ParseScript(source)
	sameAt(t, "ParseScript", l, at, e, exampleScript(), 0, api.OK)
	length := 0
	referenceSteps(exampleScript(), func(bench.Command) bool { length++; return true })
	if length != 8 {
		t.Errorf("the reference: the length is %d", length)
	}
	shots, e := bench.Shots(exampleSetup(), exampleScript())
	same(t, "Shots", shots, e, []bench.Shot{{Instrument: "a", Number: 1, Time: 3, From: 6, To: 12}, {Instrument: "a", Number: 2, Time: 6, From: 9, To: 15}}, api.OK)
}

// P10.2: the first error of each command.
func TestCheckCommands(t *testing.T) {
	check := func(c bench.Command) api.Errno {
		return bench.CheckScript([]bench.Command{arm("a"), c, trigger(), {Op: "x"}})
	}
	for _, op := range []string{"", "x", "Arm", "arm ", "wait 3", "loop"} {
		for _, c := range []bench.Command{{Op: op}, {Op: op, Name: "1"}, {Op: op, Name: "a", Count: -1}} {
			isError(t, "an unknown Op", check(c), api.ErrKind)
		}
	}
	counts := map[string][]int{"arm": {0, 0}, "disarm": {0, 0}, "wait": {1, 100000}, "trigger": {0, 0}, "repeat": {1, 100}, "end": {0, 0}}
	for op, limits := range counts {
		isNamed := op == "arm" || op == "disarm"
		for _, name := range append(badNames(), goodNames()...) {
			for _, count := range append(far(), 0, 1, 2, 100, 101, 100000, 100001) {
				wanted := api.ErrKind
				if isNamed && !slices.Contains(goodNames(), name) {
					wanted = api.ErrName
				} else if !isNamed && name != "" {
					wanted = api.ErrForm
				} else if count < limits[0] || count > limits[1] {
					wanted = api.ErrRange
				}
				isError(t, "CheckScript of "+op, check(bench.Command{Op: op, Name: name, Count: count}), wanted)
			}
		}
	}
}

// P10.2: bodies, their depth, and the order of these errors.
func TestCheckBodies(t *testing.T) {
	five := slices.Concat(times(5, repeat(1)), times(5, end()))
	for _, row := range []struct {
		l []bench.Command
		e api.Errno
	}{
		{nil, api.OK}, {times(64, trigger()), api.OK}, {times(65, trigger()), api.ErrMany}, {times(65, bench.Command{}), api.ErrMany},
		{[]bench.Command{end()}, api.ErrShape}, {[]bench.Command{repeat(1)}, api.ErrShape}, {[]bench.Command{end(), repeat(1)}, api.ErrShape}, {[]bench.Command{repeat(1), end(), end()}, api.ErrShape},
		{[]bench.Command{repeat(1), repeat(1), end()}, api.ErrShape}, {repeated(1), api.OK}, {repeated(100), api.OK}, {append(repeated(1), repeated(1)...), api.OK},
		{slices.Concat(times(4, repeat(1)), times(4, end())), api.OK}, {five, api.ErrLimit}, {five[:5], api.ErrLimit}, {five[:4], api.ErrShape}, {append(five, end()), api.ErrLimit},
		{append([]bench.Command{end()}, five...), api.ErrShape}, {slices.Concat(five[:4], []bench.Command{end()}, five[:1]), api.ErrShape}, {slices.Concat(five[:4], []bench.Command{end()}, five[:2]), api.ErrLimit},
		{slices.Concat(five[:4], five[6:], five[:4], five[6:]), api.OK}, {slices.Concat(five, []bench.Command{{Op: "x"}}), api.ErrKind},
	} {
		isError(t, "CheckScript of "+referenceSource(row.l), bench.CheckScript(row.l), row.e)
		isError(t, "the reference", referenceCheckScript(row.l), row.e)
	}
}

// P10.2: the length of a script is at most 10000.
func TestLengths(t *testing.T) {
	hundred := repeated(9, times(10, wait(1))...)
	most := repeated(100, hundred...)
	deep := repeated(100, repeated(100, repeated(100, repeated(100, times(56, wait(1))...)...)...)...)
	for _, row := range []struct {
		l []bench.Command
		e api.Errno
	}{
		{most, api.OK}, {append(most, wait(1)), api.ErrLimit}, {append(most, repeated(1)...), api.ErrLimit}, {repeated(100, repeated(99)...), api.OK}, {repeated(100, repeated(100)...), api.ErrLimit},
		{repeated(100, append(repeated(98), trigger())...), api.OK}, {repeated(100, append(repeated(98), trigger(), trigger())...), api.ErrLimit}, {deep, api.ErrLimit},
		{append(repeated(100, repeated(99)...), repeat(1)), api.ErrShape}, {repeated(1, repeated(1, repeated(100, repeated(98)...)...)...), api.OK},
	} {
		isError(t, "CheckScript of "+referenceSource(row.l), bench.CheckScript(row.l), row.e)
		source, e := bench.PrintScript(row.l)
		wanted := referenceSource(row.l)
		if row.e != api.OK {
			wanted = ""
		}
		same(t, "PrintScript", source, e, wanted, row.e)
		l, at, e := bench.ParseScript(referenceSource(row.l))
		if row.e == api.OK {
			sameAt(t, "ParseScript", l, at, e, row.l, 0, api.OK)
		} else {
			sameAt(t, "ParseScript", l, at, e, nil, 0, row.e)
		}
	}
}

// P10.2: sources with spaces, and the number of the command without its form.
func TestSources(t *testing.T) {
	for src, wanted := range map[string][]bench.Command{
		"": nil, " ": nil, "     ": nil, "trigger": {trigger()}, "  trigger  ": {trigger()}, "arm   a;disarm a ;  wait    7": {arm("a"), disarm("a"), wait(7)}, "arm end;arm arm": {arm("end"), arm("arm")},
		"repeat 3 ; end": repeated(3), "arm " + strings.Repeat(" ", 4091) + "a": {arm("a")},
	} {
		l, at, e := bench.ParseScript(src)
		sameAt(t, "ParseScript "+src, l, at, e, wanted, 0, api.OK)
	}
	for src, number := range map[string]int{
		";": 1, " ; ": 1, "trigger;": 2, "trigger; ": 2, ";trigger": 1, "trigger;;trigger": 2, "arm": 1, "arm a b": 1, "arm a;arm;arm": 2, "trigger a": 1, "trigger 0": 1, "wait": 1, "wait x": 1, "wait 01": 1, "wait -1": 1, "wait +1": 1,
		"wait 1 2": 1, "wait 1000000000": 1, "wait 1.0": 1, "repeat": 1, "repeat a": 1, "end 1": 1, "loop": 1, "Trigger": 1, "trigger\n": 1, "\ttrigger": 1, "wait\t1": 1, "trigger,trigger": 1, "arm a;trigger;x;y": 3, "arm 1;x": 2,
		strings.Repeat("trigger;", 100): 101, "wait 1\n": 1, "wait \xff": 1,
	} {
		l, at, e := bench.ParseScript(src)
		sameAt(t, "ParseScript "+src, l, at, e, nil, number, api.ErrSyntax)
	}
	for src, wanted := range map[string]api.Errno{
		"arm 1": api.ErrName, "arm a\n": api.ErrName, "arm \xff": api.ErrName, "wait 0": api.ErrRange, "wait 100001": api.ErrRange, "wait 999999999": api.ErrRange, "repeat 0;end": api.ErrRange, "repeat 101;end": api.ErrRange, "end": api.ErrShape, "repeat 1": api.ErrShape,
		strings.Repeat("trigger;", 64) + "trigger": api.ErrMany, strings.Repeat(" ", 4097): api.ErrLong, strings.Repeat(";", 4097): api.ErrLong, "arm " + strings.Repeat("a", 4092): api.ErrName, "arm " + strings.Repeat("a", 4093): api.ErrLong,
		"repeat 1;repeat 1;repeat 1;repeat 1;repeat 1": api.ErrLimit,
	} {
		l, at, e := bench.ParseScript(src)
		sameAt(t, "ParseScript "+src, l, at, e, nil, 0, wanted)
	}
}

// anyScript returns a random script with at most a number of further bodies in one another; most instruments exist in a set-up
// with n instruments, and most commands do not fail.
func anyScript(r *rand.Rand, known []string, depth int) []bench.Command {
	isArmed := map[string]bool{}
	var l []bench.Command
	for range r.Intn(8) {
		switch k := r.Intn(10); {
		case k < 3 && len(known) > 0:
			name := pick(r, known...)
			if isArmed[name] != (r.Intn(12) == 0) {
				l = append(l, disarm(name))
			} else {
				l = append(l, arm(name))
			}
			isArmed[name] = l[len(l)-1].Op == "arm"
		case k == 3 && r.Intn(6) == 0:
			l = append(l, pick(r, arm("unknown"), disarm("a")))
		case k < 6:
			l = append(l, wait(1+r.Intn(pick(r, 5, 100000))))
		case k < 8 && (len(isArmed) > 0 || r.Intn(5) == 0):
			l = append(l, trigger())
		case depth > 0:
			l = append(l, repeated(1+r.Intn(pick(r, 2, 4, 4, 100)), anyScript(r, known, depth-1)...)...)
		}
	}
	return l
}

// P10.2: random scripts have the error, the source and the shots of the definition.
func TestScripts(t *testing.T) {
	r := source(3)
	found := map[api.Errno]int{}
	for range 20000 {
		s := anySetup(r)
		s.Level = "0"
		l := anyScript(r, names(len(s.Instruments)), r.Intn(6))
		if r.Intn(10) == 0 && len(l) > 0 {
			l[r.Intn(len(l))] = pick(r, end(), repeat(2), wait(0), bench.Command{Op: "x"}, arm(""), bench.Command{Op: "end", Name: "a"})
		}
		wantedError := referenceCheckScript(l)
		isError(t, "CheckScript", bench.CheckScript(l), wantedError)
		wantedSource := ""
		if wantedError == api.OK {
			wantedSource = referenceSource(l)
		}
		before := slices.Clone(l)
		source, e := bench.PrintScript(l)
		same(t, "PrintScript", source, e, wantedSource, wantedError)
		wanted, wantedError := referenceShots(s, l)
		shots, e := bench.Shots(s, l)
		same(t, "Shots of "+referenceSource(l), shots, e, wanted, wantedError)
		same(t, "the script afterwards", l, api.OK, before, api.OK)
		found[e]++
	}
	decided(t, "Shots", found, api.OK, api.ErrUnknown, api.ErrState, api.ErrMany, api.ErrShape, api.ErrLimit, api.ErrRange, api.ErrKind)
}

// P10.2: damaged sources have the results of the definition.
func TestDamagedSources(t *testing.T) {
	r := source(4)
	found := map[api.Errno]int{}
	for range 20000 {
		src := referenceSource(anyScript(r, []string{"a", pick(r, "b2", "_")}, 2))
		for strings.Contains(src, " ") && r.Intn(3) == 0 {
			src = strings.Replace(src, " ", pick(r, "", "  ", "   "), 1+r.Intn(5))
		}
		src = damaged(r, src, " ;019ax\n-")
		wanted, wantedAt, wantedError := referenceParseScript(src)
		l, at, e := bench.ParseScript(src)
		sameAt(t, "ParseScript "+src, l, at, e, wanted, wantedAt, wantedError)
		found[e]++
	}
	decided(t, "ParseScript", found, api.OK, api.ErrSyntax, api.ErrName, api.ErrRange, api.ErrLimit)
}

// P10.2: the errors of an execution, and its limits.
func TestExecutionErrors(t *testing.T) {
	s := bench.Setup{Name: "s", Instruments: instruments(16), Level: "0"}
	all := make([]bench.Command, 16)
	for i, name := range names(16) {
		all[i] = arm(name)
	}
	for _, row := range []struct {
		l []bench.Command
		e api.Errno
	}{
		{[]bench.Command{arm("a")}, api.ErrUnknown}, {[]bench.Command{disarm("a")}, api.ErrUnknown}, {[]bench.Command{disarm("i0")}, api.ErrState}, {[]bench.Command{arm("i0"), arm("i0")}, api.ErrState},
		{[]bench.Command{arm("i0"), disarm("i0"), disarm("i0")}, api.ErrState}, {[]bench.Command{trigger()}, api.ErrState}, {[]bench.Command{arm("i0"), disarm("i0"), trigger()}, api.ErrState},
		{repeated(2, arm("i0")), api.ErrState}, {repeated(2, arm("i0"), disarm("i0")), api.OK}, {[]bench.Command{arm("i0"), arm("i1"), disarm("i0"), trigger()}, api.OK},
		{append([]bench.Command{arm("i0")}, repeated(10, repeated(100, trigger())...)...), api.OK}, {append(append([]bench.Command{arm("i0")}, repeated(10, repeated(100, trigger())...)...), trigger()), api.ErrMany},
		{append(slices.Clone(all), repeated(62, trigger())...), api.OK}, {append(slices.Clone(all), repeated(63, trigger())...), api.ErrMany}, {append(slices.Clone(all[:10]), repeated(100, trigger())...), api.OK},
		// The first command that fails decides.
		{append(slices.Clone(all), append(repeated(63, trigger()), arm("x"))...), api.ErrMany}, {[]bench.Command{trigger(), arm("x")}, api.ErrState}, {[]bench.Command{arm("x"), trigger()}, api.ErrUnknown},
		{[]bench.Command{arm("x"), end()}, api.ErrShape}, {[]bench.Command{arm("x"), arm("1")}, api.ErrName},
	} {
		wanted, wantedError := referenceShots(s, row.l)
		isError(t, "the reference", wantedError, row.e)
		shots, e := bench.Shots(s, row.l)
		same(t, "Shots of "+referenceSource(row.l), shots, e, wanted, row.e)
	}
	shots, e := bench.Shots(bench.Setup{Name: "s", Level: "0"}, nil)
	same(t, "Shots of nothing", shots, e, nil, api.OK)
}

// P10.2: ranges of samples begin before the trigger, and may begin before the time 0.
func TestRangesOfShots(t *testing.T) {
	s := bench.Setup{Name: "s", Instruments: []bench.Instrument{{Name: "b", Delay: 100000}, {Name: "a", Delay: 0}}, Pre: 4096, Post: 4095, Level: "0"}
	shots, e := bench.Shots(s, []bench.Command{arm("a"), arm("b"), wait(100000), wait(1), trigger(), disarm("b"), trigger()})
	same(t, "Shots", shots, e, []bench.Shot{{"b", 1, 100001, 195905, 204096}, {"a", 1, 100001, 95905, 104096}, {"a", 2, 100001, 95905, 104096}}, api.OK)
	shots, e = bench.Shots(s, []bench.Command{arm("a"), trigger()})
	same(t, "Shots at 0", shots, e, []bench.Shot{{"a", 1, 0, -4096, 4095}}, api.OK)
}
