package eye_test

import (
	"math/big"
	"math/rand"
	"slices"
	"testing"

	"strobe/api"
	"strobe/eye"
)

// P8.1: the examples 1 and 2 of the chapter.
func TestLoopExamples(t *testing.T) {
	l := exampleLoop()
	ticks, e := eye.Recover(l, numbers("3", "13", "34"))
	sameList(t, "Recover", ticks, e, []eye.Tick{{0, "3", "10"}, {1, "13", "10"}, {3, "33", "10"}}, api.OK)
	n, e := eye.Lock(l, numbers("3", "13", "34"))
	same(t, "Lock", n, e, 0, api.OK)
	ticks, e = eye.Recover(l, numbers("3", "13", "34", "54"))
	sameList(t, "Recover", ticks, e, []eye.Tick{{0, "3", "10"}, {1, "13", "10"}, {3, "33", "10"}, {5, "107/2", "10"}}, api.OK)
	l.Frequency = "1/2"
	ticks, e = eye.Recover(l, numbers("3", "13", "34"))
	sameList(t, "Recover", ticks, e, []eye.Tick{{0, "3", "10"}, {1, "13", "10"}, {3, "33", "41/4"}}, api.OK)
}

// badLoop is a loop with an error.
type badLoop = bad[eye.Loop]

// badLoops returns loops with an error.
func badLoops() []badLoop {
	l := []badLoop{{eye.Loop{}, api.ErrForm}}
	for _, b := range badNumbers() {
		// The numbers are examined before their ranges.
		l = append(l,
			badLoop{eye.Loop{Period: b.argument, Phase: "0", Frequency: "0", Tolerance: "0"}, b.e}, badLoop{eye.Loop{Period: "0", Phase: b.argument, Frequency: "2", Tolerance: "-1"}, b.e},
			badLoop{eye.Loop{Period: "-1", Phase: "2", Frequency: b.argument, Tolerance: "-1"}, b.e}, badLoop{eye.Loop{Period: "0", Phase: "-1", Frequency: "0", Tolerance: b.argument}, b.e})
	}
	large, none := nines(601), api.Rat("x")
	for _, row := range [][4]api.Rat{{large, none, none, none}, {"1", large, none, none}, {"1", "1", large, none}, {"0", "2", "2", large}} {
		l = append(l, badLoop{eye.Loop{Period: row[0], Phase: row[1], Frequency: row[2], Tolerance: row[3]}, api.ErrLarge})
	}
	for _, row := range [][4]api.Rat{
		{"0", "0", "0", "0"}, {"-1/2", "0", "0", "0"}, {"-" + nines(600), "0", "0", "0"}, {"1", "-1/2", "0", "0"}, {"1", "3/2", "0", "0"}, {"1", "-1/" + nines(600), "0", "0"},
		{"1", "0", "-1", "0"}, {"1", "0", "2", "0"}, {"1", "0", "1" + zeros(10) + "1/1" + zeros(11), "0"}, {"1", "0", "0", "-1"}, {"1", "0", "0", "-1/" + nines(600)},
	} {
		l = append(l, badLoop{eye.Loop{Period: row[0], Phase: row[1], Frequency: row[2], Tolerance: row[3]}, api.ErrRange})
	}
	return l
}

// many returns n numbers that ascend by 1.
func many(n int) []api.Rat {
	var l []api.Rat
	for i := range n {
		l = append(l, text(integer(i)))
	}
	return l
}

// badCrossings returns crossings with an error.
func badCrossings() []bad[[]api.Rat] {
	l := []bad[[]api.Rat]{
		{make([]api.Rat, 257), api.ErrMany}, {many(257), api.ErrMany}, {make([]api.Rat, 256), api.ErrForm}, {numbers("1", "1"), api.ErrOrder}, {numbers("2", "1"), api.ErrOrder}, {numbers("-1", "-2"), api.ErrOrder}, {numbers("1/2", "1/3"), api.ErrOrder},
		{numbers("1", "2", "3", "3"), api.ErrOrder}, {numbers("1", "1", "x"), api.ErrOrder}, {numbers("1", "x", "0"), api.ErrForm}, {numbers("1", nines(601), "x"), api.ErrLarge}, {append(many(255), "253"), api.ErrOrder},
	}
	for _, b := range badNumbers() {
		l = append(l, bad[[]api.Rat]{numbers(b.argument), b.e}, bad[[]api.Rat]{append(many(255), b.argument), b.e})
	}
	return l
}

// P8.1: loops with and without an error.
func TestCheckLoop(t *testing.T) {
	for _, b := range badLoops() {
		isError(t, "CheckLoop", eye.CheckLoop(b.argument), b.e)
	}
	for _, l := range []eye.Loop{exampleLoop(), {"1/" + nines(600), "0", "0", "0"}, {nines(600), "1", "1", nines(600)}, {"1", "1/" + nines(600), "1/2", "1/" + nines(600)}} {
		isError(t, "CheckLoop", eye.CheckLoop(l), api.OK)
	}
}

// sameRecovery compares all results for a loop and crossings with expected errors.
func sameRecovery(t *testing.T, l eye.Loop, crossings []api.Rat, columns int, wanted api.Errno) {
	t.Helper()
	ticks, e := eye.Recover(l, crossings)
	sameList(t, "Recover", ticks, e, nil, wanted)
	n, e := eye.Lock(l, crossings)
	same(t, "Lock", n, e, 0, wanted)
	counts, e := eye.Bathtub(l, crossings, columns)
	sameList(t, "Bathtub", counts, e, nil, wanted)
}

// P8.1: the errors of the arguments, in their order.
func TestRecoveryErrors(t *testing.T) {
	for _, b := range badLoops() {
		sameRecovery(t, b.argument, nil, 1, b.e)
		sameRecovery(t, b.argument, make([]api.Rat, 257), 0, b.e)
		sameRecovery(t, b.argument, numbers("x"), 0, b.e)
	}
	for _, b := range badCrossings() {
		sameRecovery(t, exampleLoop(), b.argument, 1, b.e)
		sameRecovery(t, exampleLoop(), b.argument, 65, b.e)
	}
	for _, columns := range append(far(), 0, 65) {
		counts, e := eye.Bathtub(exampleLoop(), nil, columns)
		sameList(t, "Bathtub", counts, e, nil, api.ErrRange)
		// The columns come before the errors of the ticks.
		counts, e = eye.Bathtub(exampleLoop(), numbers("0", nines(12)), columns)
		sameList(t, "Bathtub", counts, e, nil, api.ErrRange)
	}
}

// P8.1: without crossings there is nothing to lock.
func TestNoCrossings(t *testing.T) {
	ticks, e := eye.Recover(exampleLoop(), nil)
	sameList(t, "Recover", ticks, e, nil, api.OK)
	n, e := eye.Lock(exampleLoop(), nil)
	same(t, "Lock", n, e, 0, api.ErrEmpty)
	counts, e := eye.Bathtub(exampleLoop(), []api.Rat{}, 3)
	sameList(t, "Bathtub", counts, e, []int{0, 0, 0}, api.OK)
	counts, e = eye.Bathtub(exampleLoop(), numbers("-7/2"), 64)
	sameList(t, "Bathtub", counts, e, make([]int, 64), api.OK)
}

// P8.1: the nearest number of periods, also in the middle of two, and at least one.
func TestNumbersOfTicks(t *testing.T) {
	l := eye.Loop{Period: "10", Phase: "0", Frequency: "0", Tolerance: "0"}
	for _, row := range []struct {
		crossing api.Rat
		number   int
		expected api.Rat
	}{
		{"1/100", 1, "10"}, {"5", 1, "10"}, {"10", 1, "10"}, {"1499999/100000", 1, "10"}, {"15", 2, "20"}, {"20", 2, "20"}, {"24", 2, "20"}, {"25", 3, "30"}, {"9999999990", 999999999, "9999999990"}, {"9999999994", 999999999, "9999999990"},
	} {
		ticks, e := eye.Recover(l, numbers("0", row.crossing))
		sameList(t, "Recover", ticks, e, []eye.Tick{{0, "0", "10"}, {row.number, row.expected, "10"}}, api.OK)
	}
	// The expected time of the second tick is after the third crossing: there is one period more nevertheless.
	ticks, e := eye.Recover(l, numbers("0", "1", "2", "29"))
	sameList(t, "Recover", ticks, e, []eye.Tick{{0, "0", "10"}, {1, "10", "10"}, {2, "20", "10"}, {3, "30", "10"}}, api.OK)
	// The corrected time of the second tick is 5, and the third crossing is only 1 after it.
	l.Phase = "5/9"
	ticks, e = eye.Recover(l, numbers("0", "1", "6"))
	sameList(t, "Recover", ticks, e, []eye.Tick{{0, "0", "10"}, {1, "10", "10"}, {2, "15", "10"}}, api.OK)
	for _, crossing := range []api.Rat{"9999999995", "10000000000", nines(600), nines(300)} {
		sameRecovery(t, l, numbers("0", crossing), 3, api.ErrLarge)
		sameRecovery(t, l, numbers("-1", "0", crossing), 3, api.ErrLarge)
	}
	// The sum of the numbers is above the limit by 1.
	sameRecovery(t, l, numbers("0", "9999999990", "10000000000"), 3, api.ErrLarge)
}

// P8.1: the period after a tick is not above 0, before or after a tick with a number that is too large.
func TestNoPeriod(t *testing.T) {
	l := eye.Loop{Period: "10", Phase: "0", Frequency: "1", Tolerance: "0"}
	// The error of the second crossing is -9: the period is 1 after it. After the third one it is 1 - 8.
	sameRecovery(t, l, numbers("0", "1", "3"), 3, api.ErrState)
	// With the third one at 10 the period is 0, and with one that is later it is above 0.
	sameRecovery(t, l, numbers("0", "1", "10"), 3, api.ErrState)
	ticks, e := eye.Recover(l, numbers("0", "1", "21/2"))
	sameList(t, "Recover", ticks, e, []eye.Tick{{0, "0", "10"}, {1, "10", "1"}, {2, "11", "1/2"}}, api.OK)
	sameRecovery(t, l, numbers("0", "1", "3", nines(20)), 3, api.ErrState)
	sameRecovery(t, l, numbers("0", "1", "21/2", nines(20)), 3, api.ErrLarge)
	sameRecovery(t, l, numbers("0", nines(20), nines(30)), 3, api.ErrLarge)
	// The period 1 makes 10^9 numbers of 10^9.
	sameRecovery(t, l, numbers("0", "1", "1000000009"), 3, api.ErrLarge)
	ticks, e = eye.Recover(l, numbers("0", "1", "1000000008"))
	sameList(t, "Recover", ticks, e, []eye.Tick{{0, "0", "10"}, {1, "10", "1"}, {999999999, "1000000008", "1"}}, api.OK)
}

// P8.1: the clock is locked from the last error above the tolerance on.
func TestLock(t *testing.T) {
	// Without gains the errors are 0, 1, -2, 1/2, -1/2, 0.
	crossings := numbers("0", "11", "18", "61/2", "79/2", "50")
	for _, row := range []struct {
		tolerance api.Rat
		n         int
	}{{"2", 0}, {nines(600), 0}, {"199999/100000", 3}, {"1", 3}, {"1/2", 3}, {"49999/100000", 5}, {"0", 5}, {"1/" + nines(600), 5}} {
		n, e := eye.Lock(eye.Loop{Period: "10", Phase: "0", Frequency: "0", Tolerance: row.tolerance}, crossings)
		same(t, "Lock "+string(row.tolerance), n, e, row.n, api.OK)
	}
	for _, last := range []int{2, 3, 4, 5} {
		n, e := eye.Lock(eye.Loop{Period: "10", Phase: "0", Frequency: "0", Tolerance: "1/3"}, crossings[:last])
		same(t, "Lock", n, e, 0, api.ErrLock)
	}
	n, e := eye.Lock(exampleLoop(), numbers("-1/3"))
	same(t, "Lock", n, e, 0, api.OK)
}

// P8.1: errors at the limits between columns, beyond the first and the last column, and relative to the nominal period.
func TestBathtub(t *testing.T) {
	l := eye.Loop{Period: "4", Phase: "0", Frequency: "0", Tolerance: "0"}
	for _, row := range []struct {
		crossings []api.Rat
		counts    []int
	}{
		{numbers("0", "4"), []int{0, 0, 0, 0}},
		{numbers("0", "5"), []int{1, 0, 0, 0}}, {numbers("0", "21/4"), []int{1, 1, 0, 0}}, {numbers("0", "3"), []int{0, 0, 0, 0}}, {numbers("0", "11/4"), []int{0, 0, 0, 1}},
		{numbers("0", "2"), []int{0, 0, 0, 1}}, {numbers("0", "7/4"), []int{0, 0, 1, 1}}, {numbers("0", "1"), []int{0, 0, 1, 1}}, {numbers("0", "3/4"), []int{0, 1, 1, 1}}, {numbers("0", "1/4"), []int{0, 1, 1, 1}},
		// The third tick is expected at 8, and the fourth one at 12: they are early by more than a period.
		{numbers("0", "1", "2"), []int{1, 1, 2, 2}}, {numbers("0", "1", "2", "4"), []int{2, 2, 3, 3}}, {numbers("0", "3/2", "4", "8"), []int{0, 2, 3, 3}},
	} {
		counts, e := eye.Bathtub(l, row.crossings, 4)
		sameList(t, "Bathtub", counts, e, row.counts, api.OK)
	}
	counts, e := eye.Bathtub(l, numbers("0", "5", "7"), 1)
	sameList(t, "Bathtub", counts, e, []int{1}, api.OK)
	counts, e = eye.Bathtub(l, numbers("0", "7/8"), 64)
	sameList(t, "Bathtub", counts, e, slices.Concat(make([]int, 15), slices.Repeat([]int{1}, 49)), api.OK)
	// The errors are 19/10, 29/10 and 43/10: the period has become longer, and the last crossing is late by more than a nominal one.
	l.Frequency = "1"
	counts, e = eye.Bathtub(l, numbers("0", "59/10", "64/5", "23"), 4)
	sameList(t, "Bathtub", counts, e, []int{3, 3, 2, 1}, api.OK)
}

// anyLoop returns a loop with small numbers.
func anyLoop(r *rand.Rand) eye.Loop {
	gain := func() api.Rat {
		bottom := 1 + r.Int63n(6)
		return text(fraction(r.Int63n(bottom+1), bottom))
	}
	return eye.Loop{Period: text(positive(r)), Phase: gain(), Frequency: gain(), Tolerance: text(fraction(r.Int63n(10), 1+r.Int63n(6)))}
}

// anyCrossings returns n numbers that ascend, about as a period does, or in another way.
func anyCrossings(r *rand.Rand, period *big.Rat, n int) []api.Rat {
	at, kind := anyNumber(r), r.Intn(3)
	var l []*big.Rat
	for range n {
		switch l = append(l, at); kind {
		case 0:
			at = plus(at, positive(r))
		default:
			at = plus(at, times(period, plus(integer(r.Intn(3)), fraction(7+r.Int63n(7), 10))))
		}
	}
	return texts(l)
}

// checkRecovery compares all results for a loop and crossings with the definitions, and counts their errors.
func checkRecovery(t *testing.T, l eye.Loop, crossings []api.Rat, columns int, found map[api.Errno]int) {
	t.Helper()
	wantedTicks, wanted := referenceTicks(l, crossings)
	ticks, e := eye.Recover(l, crossings)
	sameList(t, "Recover", ticks, e, wantedTicks, wanted)
	found[e]++
	wantedFrom, wanted := referenceLock(l, crossings)
	from, e := eye.Lock(l, crossings)
	same(t, "Lock", from, e, wantedFrom, wanted)
	found[e]++
	wantedCounts, wanted := referenceBathtub(l, crossings, columns)
	counts, e := eye.Bathtub(l, crossings, columns)
	sameList(t, "Bathtub", counts, e, wantedCounts, wanted)
}

// P8.1: random loops and crossings.
func TestRecoveries(t *testing.T) {
	r := source(1)
	found := map[api.Errno]int{}
	for range 1500 {
		l := anyLoop(r)
		checkRecovery(t, l, anyCrossings(r, valid(l.Period), r.Intn(12)), 1+r.Intn(64), found)
	}
	for range 5 {
		l := eye.Loop{Period: text(positive(r)), Phase: "1/2", Frequency: "1/8", Tolerance: "1"}
		checkRecovery(t, l, anyCrossings(r, valid(l.Period), 256), 64, found)
	}
	decided(t, "Recover, Lock", found, api.OK, api.ErrState, api.ErrEmpty, api.ErrLock)
}

// P8.1: numbers with the most digits: the results have too many, or just not.
func TestRecoverySizes(t *testing.T) {
	r := source(2)
	found := map[api.Errno]int{}
	for range 150 {
		digits := []int{100, 199, 290, 300, 400, 598, 599}[r.Intn(7)]
		part := func() *big.Rat {
			if r.Intn(2) == 0 {
				return fraction(1+r.Int63n(3), 4)
			}
			return largeNumber(r, digits)
		}
		l := eye.Loop{Period: text(plus(integer(1), part())), Phase: text(part()), Frequency: text(part()), Tolerance: text(part())}
		var crossings []api.Rat
		for i := range 1 + r.Intn(6) {
			crossings = append(crossings, text(plus(integer(2*i), part())))
		}
		checkRecovery(t, l, crossings, 1+r.Intn(9), found)
	}
	decided(t, "Recover, Lock", found, api.OK, api.ErrLarge, api.ErrLock)
}

// P8.1: ticks may have more digits than a number may have, where no result has them, and the error of a later crossing comes
// before that of the size of the result.
func TestTicksOnTheWay(t *testing.T) {
	l := eye.Loop{Period: "10", Phase: "1/" + nines(400), Frequency: "1/3", Tolerance: "2"}
	crossings := numbers("0", "21/2", "20", "30", "41")
	ticks, e := eye.Recover(l, crossings)
	sameList(t, "Recover", ticks, e, nil, api.ErrLarge)
	n, e := eye.Lock(l, crossings)
	same(t, "Lock", n, e, 0, api.OK)
	wanted, _ := referenceBathtub(l, crossings, 7)
	counts, e := eye.Bathtub(l, crossings, 7)
	sameList(t, "Bathtub", counts, e, wanted, api.OK)
	sameRecovery(t, l, append(crossings, "10000000000000"), 3, api.ErrLarge)
	// Each of these ticks is early, until there is no period.
	for i := range 9 {
		crossings = append(crossings, text(fraction(int64(411+i), 10)))
	}
	l.Frequency = "1"
	sameRecovery(t, l, crossings, 3, api.ErrState)
}

// P8.1: crossings do not change, and results share no memory.
func TestRecoveryChangesNothing(t *testing.T) {
	unchanged(t, numbers("0", "11", "19", "61/2"), func(crossings []api.Rat) {
		first, _ := eye.Recover(exampleLoop(), crossings)
		second, e := eye.Recover(exampleLoop(), crossings)
		clear(first)
		wanted, _ := referenceTicks(exampleLoop(), crossings)
		sameList(t, "Recover", second, e, wanted, api.OK)
		eye.Lock(exampleLoop(), crossings)
		counts, _ := eye.Bathtub(exampleLoop(), crossings, 3)
		again, e := eye.Bathtub(exampleLoop(), crossings, 3)
		wantedCounts := slices.Clone(again)
		clear(counts)
		sameList(t, "Bathtub", again, e, wantedCounts, api.OK)
	})
}
