package trigger_test

import (
	"math"
	"math/rand"
	"slices"
	"testing"

	"strobe/api"
	"strobe/trigger"
)

// likeOf returns a program that triggers like another one, and is written in a different way.
func likeOf(r *rand.Rand, p trigger.Program) trigger.Program {
	like := trigger.Program{Lines: p.Lines}
	for _, s := range p.Steps {
		switch {
		case r.Intn(2) == 0:
			s.Cond = joined("not", joined("not", s.Cond))
		default:
			s.Cond = joined("any", s.Cond, joined("all", s.Cond, high(0)))
		}
		like.Steps = append(like.Steps, s)
	}
	return like
}

// P4.7: the automaton of a program triggers at the times of its meaning.
func TestAutomataMeanTheirPrograms(t *testing.T) {
	r := source(14)
	for range 1500 {
		p := randomProgram(r, 1+r.Intn(4), 3, 1+r.Intn(9))
		a, e := trigger.Compile(p)
		if e == api.ErrMany || e == api.ErrLimit {
			continue
		}
		for range 5 {
			signal := randomSignal(r, p.Lines, r.Intn(300))
			times, e := trigger.Run(a, signal)
			wanted, wantedError := trigger.Triggers(p, signal)
			sameList(t, written(p), times, e, wanted, wantedError)
		}
	}
}

// P4.7: programs that trigger alike have equal automata, and two automata are distinguished or related, never both.
func TestDistinguishedOrRelated(t *testing.T) {
	r := source(15)
	alike, apart := 0, 0
	for range 1000 {
		lines := 1 + r.Intn(4)
		p := randomProgram(r, lines, 2, 1+r.Intn(4))
		for i := range p.Steps {
			p.Steps[i].Cond = randomCond(r, lines, trigger.MaxDepth-r.Intn(2), 3)
		}
		q := likeOf(r, p)
		if trigger.CheckProgram(q) != api.OK || r.Intn(4) == 0 {
			q = randomProgram(r, lines, 2, 3)
		}
		a, e := trigger.Compile(p)
		b, e2 := trigger.Compile(q)
		if e != api.OK || e2 != api.OK {
			continue
		}
		signal, e := trigger.Distinguish(a, b)
		pairs, e2 := trigger.Relate(a, b)
		if equalAutomata(a, b) {
			alike++
			sameList(t, "Distinguish", signal, e, nil, api.ErrNone)
			same(t, "CheckRelation", 0, max(e2, trigger.CheckRelation(a, b, pairs)), 0, api.OK)
			continue
		}
		apart++
		sameList(t, "Relate", pairs, e2, nil, api.ErrConflict)
		same(t, "CheckRelation", 0, trigger.CheckRelation(a, b, reachedPairs(a, b)), 0, api.ErrProof)
		same(t, "whether the signal distinguishes", differs(a, b, signal), e, true, api.OK)
		last := len(signal) - 1
		x, _ := trigger.Triggers(p, signal)
		y, _ := trigger.Triggers(q, signal)
		same(t, "whether the programs differ", slices.Contains(x, last), 0, !slices.Contains(y, last), 0)
	}
	if alike < 100 || apart < 100 {
		t.Errorf("%d pairs of programs trigger alike, %d do not", alike, apart)
	}
}

// P4.7: no signal that is shorter than the one that Distinguish returns distinguishes two automata.
func TestNoShorterSignal(t *testing.T) {
	r := source(16)
	for range 300 {
		a := randomAutomaton(r, 1, 12)
		b := blownUp(r, a, 3)
		b.Fires[r.Intn(len(b.Next))][r.Intn(2)] = true
		signal, e := trigger.Distinguish(a, b)
		if e != api.OK {
			continue
		}
		for n := 1; n < min(len(signal), 11); n++ {
			for _, shorter := range allSignals(1, n) {
				if differs(a, b, shorter) {
					t.Errorf("%v is shorter than %v", shorter, signal)
				}
			}
		}
	}
}

// P4.7: the automata for both and for either trigger at the intersection and at the union of the times.
func TestTimesOfCombinations(t *testing.T) {
	r := source(17)
	for range 500 {
		lines := 1 + r.Intn(4)
		a, b := randomAutomaton(r, lines, 16), randomAutomaton(r, lines, 16)
		both, e := trigger.Both(a, b)
		either, e2 := trigger.Either(a, b)
		same(t, "the errors", e, 0, e2, 0)
		signal := randomSignal(r, lines, 200)
		x, _ := trigger.Run(a, signal)
		y, _ := trigger.Run(b, signal)
		var union, intersection []int
		for time := range signal {
			inFirst, inSecond := slices.Contains(x, time), slices.Contains(y, time)
			if inFirst || inSecond {
				union = append(union, time)
			}
			if inFirst && inSecond {
				intersection = append(intersection, time)
			}
		}
		times, e := trigger.Run(both, signal)
		sameList(t, "both", times, e, intersection, api.OK)
		times, e = trigger.Run(either, signal)
		sameList(t, "either", times, e, union, api.OK)
	}
}

// P4.7: triggers are at least the spacing apart.
func TestTriggersAreApart(t *testing.T) {
	r := source(18)
	for range 500 {
		a := randomAutomaton(r, 1+r.Intn(4), 30)
		spacing, e := trigger.Spacing(a)
		times, e2 := trigger.Run(a, randomSignal(r, a.Lines, 500))
		same(t, "Run", 0, e2, 0, api.OK)
		if e == api.ErrNone && len(times) > 1 {
			t.Errorf("%v: no spacing, but the times %v", a, times)
		}
		for i := 1; i < len(times); i++ {
			if times[i]-times[i-1] < spacing {
				t.Errorf("%v: the times %v and the spacing %d", a, times, spacing)
			}
		}
	}
}

// P4.7: a program is parsed as it is printed.
func TestPrintedAndParsed(t *testing.T) {
	r := source(19)
	for range 3000 {
		p := randomProgram(r, 1+r.Intn(16), 8, 255)
		text, e := trigger.Print(p)
		if e == api.ErrLong {
			continue
		}
		same(t, "Print", 0, e, 0, api.OK)
		sameProgram(t, text, p, 0, api.OK)
	}
}

// P1: functions with arguments of any form return, without a panic.
func TestArgumentsOfAnyForm(t *testing.T) {
	numbers := []int{math.MinInt, -1, 0, 1, 4, 16, 17, 64, math.MaxInt}
	for _, n := range numbers {
		for _, k := range numbers {
			for _, kind := range append(kindNames(), "", "none") {
				c := trigger.Cond{Kind: kind, A: n, B: k, Min: n, Max: k, Pattern: "\xff", Kids: make([]trigger.Cond, 2)}
				p := trigger.Program{Lines: n, Steps: []trigger.Step{{Cond: c, Times: k, Within: n}}}
				trigger.CheckProgram(p)
				trigger.Print(p)
				trigger.Size(p)
				trigger.Holds(n, c, []int{k})
				trigger.Triggers(p, []int{k})
				trigger.Compile(p)
			}
			a := trigger.Automaton{Lines: n, Next: [][]int{{k, n}, nil}, Fires: [][]bool{nil, nil, {true}}}
			b := trigger.Automaton{Lines: k, Next: [][]int{{0, n}}, Fires: [][]bool{{true, true}}}
			for _, pair := range [][2]trigger.Automaton{{a, b}, {b, a}, {a, a}, {b, b}} {
				trigger.Run(pair[0], []int{n})
				trigger.Final(pair[0], []int{n})
				trigger.Minimal(pair[0])
				trigger.Distinguish(pair[0], pair[1])
				trigger.Relate(pair[0], pair[1])
				trigger.CheckRelation(pair[0], pair[1], [][2]int{{n, k}, {k, n}})
				trigger.Either(pair[0], pair[1])
				trigger.Both(pair[0], pair[1])
				trigger.Shortest(pair[0])
				trigger.Spacing(pair[0])
			}
		}
	}
}

// P1: sources of any bytes are read or refused, without a panic.
func TestSourcesOfAnyBytes(t *testing.T) {
	r := source(20)
	for range 5000 {
		bytes := make([]byte, r.Intn(40))
		for i := range bytes {
			bytes[i] = byte(r.Intn(256))
			if r.Intn(2) == 0 {
				bytes[i] = "01x;(), \nlines"[r.Intn(14)]
			}
		}
		p, at, e := trigger.Parse(string(bytes))
		if e == api.ErrSyntax && at == syntaxError(string(bytes)) && equalPrograms(p, trigger.Program{}) {
			continue
		}
		t.Errorf("Parse %q: got %v, %d, %d", bytes, p, at, e)
	}
}

// The rules of all layers: the arguments do not change, and results share no memory with them or with each other.
func TestProgramsShareNothing(t *testing.T) {
	text := "lines 2; all(high 0, not(runt 0 1)) times 2; pulse 1 2 3 within 4;"
	p := parsed(t, text)
	signal := []int{0, 1, 1, 3, 1, 0, 2, 2, 0}
	trigger.Triggers(p, signal)
	trigger.Holds(2, p.Steps[0].Cond, signal)
	a, _ := trigger.Compile(p)
	b, _ := trigger.Compile(p)
	for state := range a.Next {
		a.Next[state] = append(a.Next[state], -1)
		a.Fires[state] = append(a.Fires[state], true)
		clear(a.Next[state])
	}
	again, e := trigger.Compile(p)
	sameAutomaton(t, "Compile", again, e, b, api.OK)
	source, e := trigger.Print(p)
	same(t, "Print", source, e, text, api.OK)
	sameList(t, "the signal", signal, 0, []int{0, 1, 1, 3, 1, 0, 2, 2, 0}, 0)
	p.Steps[0].Cond.Kids[0].A = 1
	sameProgram(t, text, parsed(t, text), 0, api.OK)
}
