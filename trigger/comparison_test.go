package trigger_test

import (
	"slices"
	"testing"

	"strobe/api"
	"strobe/trigger"
)

// differs reports whether exactly one of two automata triggers at the last sample of a signal.
func differs(a, b trigger.Automaton, signal []int) bool {
	last := len(signal) - 1
	x, _ := runOf(a, signal)
	y, _ := runOf(b, signal)
	return slices.Contains(x, last) != slices.Contains(y, last)
}

// sameErrorsOfTwo reports an error of two automata that a function of two does not return.
func sameErrorsOfTwo(t *testing.T, a, b trigger.Automaton, wanted api.Errno) {
	t.Helper()
	signal, e := trigger.Distinguish(a, b)
	sameList(t, "Distinguish", signal, e, nil, wanted)
	pairs, e := trigger.Relate(a, b)
	sameList(t, "Relate", pairs, e, nil, wanted)
	for _, l := range [][][2]int{nil, {{0, 0}}, {{-1, 9}}, make([][2]int, 65537)} {
		same(t, "CheckRelation", 0, trigger.CheckRelation(a, b, l), 0, wanted)
	}
	either, e := trigger.Either(a, b)
	sameAutomaton(t, "Either", either, e, trigger.Automaton{}, wanted)
	both, e := trigger.Both(a, b)
	sameAutomaton(t, "Both", both, e, trigger.Automaton{}, wanted)
}

// P4.5, P4.6: the errors of two automata, in their order.
func TestErrorsOfTwoAutomata(t *testing.T) {
	for _, row := range badAutomata() {
		sameErrorsOfTwo(t, row.a, risen(), row.e)
		sameErrorsOfTwo(t, row.a, never(2), row.e)
		sameErrorsOfTwo(t, row.a, trigger.Automaton{Lines: 2, Next: [][]int{{0}}}, row.e)
		sameErrorsOfTwo(t, risen(), row.a, row.e)
		sameErrorsOfTwo(t, never(2), row.a, row.e)
	}
	for x := 1; x <= 4; x++ {
		for y := 1; y <= 4; y++ {
			if x != y {
				sameErrorsOfTwo(t, cycle(x, 3), cycle(y, 3), api.ErrShape)
			}
		}
	}
}

// P4.5: the example 4 of the chapter, and other signals that are written out.
func TestDistinguish(t *testing.T) {
	for _, row := range []struct {
		a, b   string
		signal []int
	}{
		{"lines 1; rise 0;", "lines 1; high 0;", []int{1}}, {"lines 1; rise 0;", "lines 1; fall 0;", []int{0, 1}}, {"lines 1; high 0;", "lines 1; low 0;", []int{0}}, {"lines 2; enter 11;", "lines 2; all(high 0, high 1);", []int{3}}, {"lines 2; rise 0;", "lines 2; rise 1;", []int{0, 1}}, {"lines 2; rise 1;", "lines 2; all(rise 1, low 0);", []int{0, 3}},
		{"lines 1; idle 0 3;", "lines 1; idle 0 4;", []int{0, 0, 0}}, {"lines 1; pulse 0 2 3;", "lines 1; pulse 0 2 4;", []int{0, 1, 1, 1, 1, 0}}, {"lines 1; high 0 times 3;", "lines 1; high 0; high 0 within 3; high 0;", []int{1, 0, 0, 0, 1, 1}},
	} {
		a, b := compiled(t, row.a), compiled(t, row.b)
		signal, e := trigger.Distinguish(a, b)
		sameList(t, "Distinguish "+row.a+row.b, signal, e, row.signal, api.OK)
		signal, e = trigger.Distinguish(b, a)
		sameList(t, "Distinguish "+row.b+row.a, signal, e, row.signal, api.OK)
		pairs, e := trigger.Relate(a, b)
		sameList(t, "Relate", pairs, e, nil, api.ErrConflict)
		same(t, "CheckRelation", 0, trigger.CheckRelation(a, b, reachedPairs(a, b)), 0, api.ErrProof)
	}
	// The signal may be about as long as both automata have states.
	late := cycle(1, 256)
	late.Next[255] = []int{254, 254}
	signal, e := trigger.Distinguish(late, cycle(1, 256))
	sameList(t, "Distinguish", signal, e, make([]int, 258), api.OK)
	signal, e = trigger.Distinguish(cycle(4, 255), cycle(4, 256))
	sameList(t, "Distinguish", signal, e, make([]int, 255), api.OK)
}

// P4.5: the first of all signals, in the order of their lengths.
func TestDistinguishByDefinition(t *testing.T) {
	r := source(10)
	lengths := map[int]bool{}
	for range 800 {
		lines := 1 + r.Intn(2)
		a := randomAutomaton(r, lines, 3)
		b := blownUp(r, a, r.Intn(2))
		if state := r.Intn(len(b.Next)); r.Intn(2) == 0 {
			b.Fires[state][r.Intn(1<<lines)] = true
		} else {
			b.Next[state][r.Intn(1<<lines)] = r.Intn(len(b.Next))
		}
		// Automata that no signal of as many samples as they have states together distinguishes trigger alike.
		var wanted []int
		for n := 1; n < len(a.Next)+len(b.Next) && wanted == nil; n++ {
			signals := allSignals(lines, n)
			if i := slices.IndexFunc(signals, func(signal []int) bool { return differs(a, b, signal) }); i >= 0 {
				wanted = signals[i]
			}
		}
		signal, e := trigger.Distinguish(a, b)
		pairs, errRelate := trigger.Relate(a, b)
		if wanted == nil {
			sameList(t, "Distinguish", signal, e, nil, api.ErrNone)
			sameList(t, "Relate", pairs, errRelate, reachedPairs(a, b), api.OK)
		} else {
			sameList(t, "Distinguish", signal, e, wanted, api.OK)
			sameList(t, "Relate", pairs, errRelate, nil, api.ErrConflict)
		}
		lengths[len(wanted)] = true
	}
	if len(lengths) < 5 {
		t.Errorf("there are only signals of %d lengths", len(lengths))
	}
}

// P4.5: relations that are written out.
func TestRelate(t *testing.T) {
	three := trigger.Automaton{Lines: 1, Next: [][]int{{2, 1}, {2, 0}, {2, 1}}, Fires: [][]bool{{false, false}, {false, false}, {false, true}}}
	for _, row := range []struct {
		a, b  trigger.Automaton
		pairs [][2]int
	}{
		{risen(), risen(), [][2]int{{0, 0}, {1, 1}}}, {risen(), three, [][2]int{{0, 0}, {0, 1}, {1, 2}}}, {three, risen(), [][2]int{{0, 0}, {1, 0}, {2, 1}}}, {three, three, [][2]int{{0, 0}, {1, 1}, {2, 2}}},
		{never(2), never(2), [][2]int{{0, 0}}}, {cycle(1, 1), cycle(1, 1), [][2]int{{0, 0}}}, {compiled(t, "lines 2; low 0;"), compiled(t, "lines 2; any(pattern 00, pattern 01);"), [][2]int{{0, 0}}},
	} {
		pairs, e := trigger.Relate(row.a, row.b)
		sameList(t, "Relate", pairs, e, row.pairs, api.OK)
		same(t, "CheckRelation", 0, trigger.CheckRelation(row.a, row.b, pairs), 0, api.OK)
		signal, e := trigger.Distinguish(row.a, row.b)
		sameList(t, "Distinguish", signal, e, nil, api.ErrNone)
	}
	silent, other := cycle(1, 255), cycle(1, 256)
	silent.Fires, other.Fires = slices.Repeat([][]bool{{true, false}}, 255), slices.Repeat([][]bool{{true, false}}, 256)
	pairs, e := trigger.Relate(silent, other)
	sameList(t, "Relate", pairs, e, reachedPairs(silent, other), api.OK)
	same(t, "the pairs", len(pairs), 0, 255*256, 0)
	same(t, "CheckRelation", 0, trigger.CheckRelation(silent, other, pairs), 0, api.OK)
	same(t, "CheckRelation without a pair", 0, trigger.CheckRelation(silent, other, pairs[:len(pairs)-1]), 0, api.ErrProof)
}

// P4.5: the errors of relations, in their order.
func TestCheckRelation(t *testing.T) {
	a, b := risen(), trigger.Automaton{Lines: 1, Next: [][]int{{2, 1}, {2, 0}, {2, 1}}, Fires: [][]bool{{false, false}, {false, false}, {false, true}}}
	for _, row := range []struct {
		l [][2]int
		e api.Errno
	}{
		{[][2]int{{0, 0}, {0, 1}, {1, 2}}, api.OK}, {nil, api.ErrProof}, {[][2]int{{0, 0}}, api.ErrProof}, {[][2]int{{0, 1}, {1, 2}}, api.ErrProof}, {[][2]int{{0, 0}, {0, 1}}, api.ErrProof}, {[][2]int{{0, 0}, {0, 1}, {1, 1}, {1, 2}}, api.ErrProof}, {[][2]int{{0, 0}, {0, 1}, {0, 2}, {1, 2}}, api.ErrProof},
		{[][2]int{{0, 0}, {0, 1}, {1, 3}}, api.ErrUnknown}, {[][2]int{{0, 0}, {2, 0}}, api.ErrUnknown}, {[][2]int{{-1, 0}}, api.ErrUnknown}, {[][2]int{{0, -1}}, api.ErrUnknown}, {[][2]int{{1, 1}, {0, 3}}, api.ErrUnknown}, {[][2]int{{0, 0}, {0, 0}}, api.ErrOrder}, {[][2]int{{0, 1}, {0, 0}, {1, 2}}, api.ErrOrder}, {[][2]int{{1, 0}, {0, 2}}, api.ErrOrder}, {[][2]int{{1, 0}, {0, 2}, {9, 9}}, api.ErrOrder}, {[][2]int{{9, 9}, {0, 0}}, api.ErrUnknown},
		{make([][2]int, 65536), api.ErrOrder}, {make([][2]int, 65537), api.ErrMany}, {slices.Repeat([][2]int{{9, 9}}, 65537), api.ErrMany}, {slices.Repeat([][2]int{{9, 9}}, 65536), api.ErrUnknown},
	} {
		same(t, "CheckRelation", 0, trigger.CheckRelation(a, b, row.l), 0, row.e)
	}
	for _, n := range far() {
		same(t, "CheckRelation", 0, trigger.CheckRelation(a, b, [][2]int{{0, 0}, {0, n}}), 0, api.ErrUnknown)
		same(t, "CheckRelation", 0, trigger.CheckRelation(a, b, [][2]int{{n, 0}, {0, 0}}), 0, api.ErrUnknown)
	}
	// A relation may have pairs that no signal leads to.
	same(t, "CheckRelation", 0, trigger.CheckRelation(never(1), trigger.Automaton{Lines: 1, Next: [][]int{{0, 0}, {0, 1}}, Fires: make([][]bool, 2)}, nil), 0, api.ErrShape)
	idle := trigger.Automaton{Lines: 1, Next: [][]int{{0, 0}, {0, 1}}, Fires: [][]bool{{false, false}, {false, false}}}
	same(t, "CheckRelation", 0, trigger.CheckRelation(never(1), idle, [][2]int{{0, 0}, {0, 1}}), 0, api.OK)
	same(t, "CheckRelation", 0, trigger.CheckRelation(idle, never(1), [][2]int{{0, 0}, {1, 0}}), 0, api.OK)
	// The greatest relation has all pairs of states.
	var all [][2]int
	calm := cycle(2, 256)
	calm.Fires = slices.Repeat([][]bool{make([]bool, 4)}, 256)
	for i := range 65536 {
		all = append(all, [2]int{i / 256, i % 256})
	}
	same(t, "CheckRelation", 0, trigger.CheckRelation(calm, calm, all), 0, api.OK)
	same(t, "CheckRelation", 0, trigger.CheckRelation(cycle(2, 256), calm, all), 0, api.ErrProof)
}

// isProof reports whether a relation proves that two automata trigger alike.
func isProof(a, b trigger.Automaton, l [][2]int) bool {
	for _, pair := range l {
		for symbol := range 1 << a.Lines {
			if a.Fires[pair[0]][symbol] != b.Fires[pair[1]][symbol] || !slices.Contains(l, [2]int{a.Next[pair[0]][symbol], b.Next[pair[1]][symbol]}) {
				return false
			}
		}
	}
	return slices.Contains(l, [2]int{0, 0})
}

// P4.5: relations by the definition.
func TestCheckRelationByDefinition(t *testing.T) {
	r := source(11)
	proofs := 0
	for range 4000 {
		a := randomAutomaton(r, 1, 4)
		b := blownUp(r, a, r.Intn(4))
		l := reachedPairs(a, b)
		for range r.Intn(3) {
			pair := [2]int{r.Intn(len(a.Next)), r.Intn(len(b.Next))}
			if i, isIn := slices.BinarySearchFunc(l, pair, func(x, y [2]int) int { return slices.Compare(x[:], y[:]) }); !isIn {
				l = slices.Insert(l, i, pair)
			} else if r.Intn(3) == 0 {
				l = slices.Delete(l, i, i+1)
			}
		}
		wanted := api.ErrProof
		if isProof(a, b, l) {
			wanted = api.OK
			proofs++
		}
		same(t, "CheckRelation", 0, trigger.CheckRelation(a, b, l), 0, wanted)
	}
	if proofs < 500 || proofs > 3500 {
		t.Errorf("there are %d proofs", proofs)
	}
}

// P4.5: the arguments do not change.
func TestComparisonsShareNothing(t *testing.T) {
	a, b := risen(), risen()
	pairs, _ := trigger.Relate(a, b)
	same(t, "CheckRelation", 0, trigger.CheckRelation(a, b, pairs), 0, api.OK)
	sameList(t, "the relation", pairs, 0, [][2]int{{0, 0}, {1, 1}}, 0)
	trigger.Distinguish(a, never(1))
	trigger.Either(a, b)
	sameAutomaton(t, "the first automaton", a, 0, risen(), 0)
	sameAutomaton(t, "the second automaton", b, 0, risen(), 0)
}
