package eye_test

import (
	"math/big"
	"slices"
	"testing"

	"strobe/api"
	"strobe/eye"
)

// P8.2: the example 3 of the chapter.
func TestClockExamples(t *testing.T) {
	c := eye.Clock{Start: "3", Period: "4"}
	sameFold(t, c, "10", 1, "3/4", api.OK)
	sameFold(t, c, "0", -1, "1/4", api.OK)
	bits, e := eye.Bits(c, []float32{9, 0, 9, 9, 9, 2, 9, 9}, "1")
	sameList(t, "Bits", bits, e, []eye.Bit{{-1, 1, false}, {0, 5, true}}, api.OK)
}

// sameFold compares a result of Fold with the expected one.
func sameFold(t *testing.T, c eye.Clock, at api.Rat, wantedBit int, wantedPhase api.Rat, wantedError api.Errno) {
	t.Helper()
	n, phase, e := eye.Fold(c, at)
	if n != wantedBit || phase != wantedPhase || e != wantedError {
		t.Errorf("Fold %v, %s: got %d, %s, %d, want %d, %s, %d", c, at, n, phase, e, wantedBit, wantedPhase, wantedError)
	}
}

// P8.2: clocks with and without an error.
func TestCheckClock(t *testing.T) {
	for _, b := range badClocks() {
		isError(t, "CheckClock", eye.CheckClock(b.argument), b.e)
		sameFold(t, b.argument, "x", 0, "", b.e)
		sameFold(t, b.argument, nines(601), 0, "", b.e)
		for _, samples := range [][]float32{nil, {1}, notFinite(), make([]float32, 4097)} {
			bits, e := eye.Bits(b.argument, samples, "x")
			sameList(t, "Bits", bits, e, nil, b.e)
		}
	}
	for _, c := range []eye.Clock{{"0", "1"}, {"-" + nines(600), nines(600)}, {"1/" + nines(600), "1/" + nines(600)}} {
		isError(t, "CheckClock", eye.CheckClock(c), api.OK)
	}
}

// P8.2: the errors of times, samples and levels, in their order.
func TestClockErrors(t *testing.T) {
	c := eye.Clock{Start: "0", Period: "1/" + nines(600)}
	for _, b := range badNumbers() {
		sameFold(t, c, b.argument, 0, "", b.e)
		bits, e := eye.Bits(c, []float32{1}, b.argument)
		sameList(t, "Bits", bits, e, nil, b.e)
	}
	for _, b := range badSamples() {
		for _, level := range numbers("0", "x", nines(601)) {
			bits, e := eye.Bits(c, b.argument, level)
			sameList(t, "Bits", bits, e, nil, b.e)
		}
	}
}

// P8.2: times at the limits of bits, and bit numbers at both ends of their range.
func TestFold(t *testing.T) {
	c := eye.Clock{Start: "-1/2", Period: "3/2"}
	for _, row := range []struct {
		at    api.Rat
		n     int
		phase api.Rat
		e     api.Errno
	}{
		{"-1/2", 0, "0", api.OK}, {"1", 1, "0", api.OK}, {"99/100", 0, "149/150", api.OK}, {"-51/100", -1, "149/150", api.OK}, {"-2", -1, "0", api.OK}, {"-5/2", -2, "2/3", api.OK}, {"0", 0, "1/3", api.OK},
		{"1499999998", 999999999, "0", api.OK}, {"1499999999", 999999999, "2/3", api.OK}, {"2999999999/2", 0, "", api.ErrLarge}, {nines(600), 0, "", api.ErrLarge},
		{"-1499999999", -999999999, "0", api.OK}, {"-149999999900001/100000", 0, "", api.ErrLarge}, {"-1500000000", 0, "", api.ErrLarge}, {"-" + nines(600), 0, "", api.ErrLarge},
	} {
		sameFold(t, c, row.at, row.n, row.phase, row.e)
	}
}

// P8.2: random clocks and times, and those with the most digits.
func TestFolds(t *testing.T) {
	r := source(10)
	found := map[api.Errno]int{}
	for range 1000 {
		c, at := anyClock(r), anyNumber(r)
		wantedBit, wantedPhase, wanted := referenceFold(c, at)
		sameFold(t, c, text(at), wantedBit, wantedPhase, wanted)
	}
	for range 300 {
		part := func() *big.Rat { return largeNumber(r, []int{100, 199, 200, 201, 290, 300, 400, 599}[r.Intn(8)]) }
		c, at := clock(part(), plus(fraction(r.Int63n(2), 3), part())), plus(integer(r.Intn(20)-10), part())
		if r.Intn(2) == 0 {
			c.Start = "-1/3"
		}
		wantedBit, wantedPhase, wanted := referenceFold(c, at)
		sameFold(t, c, text(at), wantedBit, wantedPhase, wanted)
		found[wanted]++
	}
	decided(t, "Fold", found, api.OK, api.ErrLarge)
}

// P8.2: centres in the middle of two indices are rounded up, and the first and the last index are those of samples.
func TestBits(t *testing.T) {
	samples := []float32{0, 1, 2, 3, 4, 5}
	for _, row := range []struct {
		c    eye.Clock
		bits []eye.Bit
	}{
		// The centres are -3/2, 1/2, 5/2, 9/2 and 13/2.
		{eye.Clock{Start: "-1/2", Period: "2"}, []eye.Bit{{0, 1, false}, {1, 3, true}, {2, 5, true}}},
		// The centres are -1/2, 5/2 and 11/2: the last one is rounded to 6.
		{eye.Clock{Start: "-2", Period: "3"}, []eye.Bit{{0, 0, false}, {1, 3, true}}},
		// The only centre is just before 11/2, at 11/2, at -1/2, and just before -1/2.
		{eye.Clock{Start: "-44501/1000", Period: "100"}, []eye.Bit{{0, 5, true}}}, {eye.Clock{Start: "-89/2", Period: "100"}, nil},
		{eye.Clock{Start: "-101/2", Period: "100"}, []eye.Bit{{0, 0, false}}}, {eye.Clock{Start: "-50501/1000", Period: "100"}, nil},
		// Each sample decides two bits.
		{eye.Clock{Start: "0", Period: "1/2"}, []eye.Bit{{-1, 0, false}, {0, 0, false}, {1, 1, false}, {2, 1, false}, {3, 2, false}, {4, 2, false}, {5, 3, true}, {6, 3, true}, {7, 4, true}, {8, 4, true}, {9, 5, true}, {10, 5, true}}},
		// No centre is near a sample.
		{eye.Clock{Start: "-50", Period: "90"}, nil}, {eye.Clock{Start: nines(600), Period: nines(599)}, nil}, {eye.Clock{Start: "-8", Period: nines(600)}, nil},
	} {
		bits, e := eye.Bits(row.c, samples, "3")
		sameList(t, "Bits", bits, e, row.bits, api.OK)
	}
	for _, c := range []eye.Clock{exampleClock(), {"0", "1/" + nines(600)}, {nines(600), "1/" + nines(600)}} {
		bits, e := eye.Bits(c, nil, "3")
		sameList(t, "Bits", bits, e, nil, api.OK)
	}
}

// P8.2: a sample is high if it is at least the level, exactly.
func TestLevelsOfBits(t *testing.T) {
	third := float32(1) / 3
	c := eye.Clock{Start: "-1/2", Period: "1"}
	samples := []float32{third, 0, negativeZero(), -1}
	for _, row := range []struct {
		level api.Rat
		highs []bool
	}{
		{"1/3", []bool{true, false, false, false}}, {text(exact(third)), []bool{true, false, false, false}}, {text(plus(exact(third), valid("1/"+nines(500)))), make([]bool, 4)},
		{"0", []bool{true, true, true, false}}, {"1/" + nines(600), []bool{true, false, false, false}}, {"-1/" + nines(600), []bool{true, true, true, false}}, {"-1", slices.Repeat([]bool{true}, 4)}, {"-" + nines(600), slices.Repeat([]bool{true}, 4)}, {nines(600), make([]bool, 4)},
	} {
		var wanted []eye.Bit
		for j, high := range row.highs {
			wanted = append(wanted, eye.Bit{Number: j, Sample: j, High: high})
		}
		bits, e := eye.Bits(c, samples, row.level)
		sameList(t, "Bits "+string(row.level), bits, e, wanted, api.OK)
	}
}

// P8.2: the greatest number of bits, and bit numbers at both ends of their range.
func TestLimitsOfBits(t *testing.T) {
	count := func(c eye.Clock, n, wanted int, wantedError api.Errno) {
		t.Helper()
		bits, e := eye.Bits(c, make([]float32, n), "0")
		same(t, "the number of bits", len(bits), e, wanted, wantedError)
	}
	count(eye.Clock{Start: "0", Period: "1"}, 4096, 4096, api.OK)
	count(eye.Clock{Start: "0", Period: "1/4096"}, 1, 4096, api.OK)
	count(eye.Clock{Start: "0", Period: "1/4097"}, 1, 0, api.ErrMany)
	count(eye.Clock{Start: "-1/2", Period: "1/4097"}, 1, 0, api.ErrMany)
	count(eye.Clock{Start: "0", Period: "4095/4096"}, 4096, 0, api.ErrMany)
	count(eye.Clock{Start: "0", Period: "1/1000000000"}, 1, 0, api.ErrMany)
	count(eye.Clock{Start: nines(600), Period: "1/" + nines(600)}, 1, 0, api.ErrMany)
	// There are too many bits, and their numbers are too large.
	count(eye.Clock{Start: nines(20), Period: "1/5000"}, 1, 0, api.ErrMany)
	for _, row := range []struct {
		start api.Rat
		n     int
		e     api.Errno
	}{
		// The sample j decides the bit j - 1 less the start.
		{"-999999998", 3, api.OK}, {"-999999998", 4, api.ErrLarge}, {"-1000000000", 1, api.OK}, {"-1000000000", 2, api.ErrLarge}, {"-1000000001", 1, api.ErrLarge}, {"-" + nines(600), 1, api.ErrLarge},
		{"999999998", 4, api.OK}, {"999999999", 4, api.ErrLarge}, {nines(600), 4, api.ErrLarge}, {"1000000000", 0, api.OK}, {"-" + nines(600), 0, api.OK},
	} {
		wanted := row.n
		if row.e != api.OK {
			wanted = 0
		}
		count(eye.Clock{Start: row.start, Period: "1"}, row.n, wanted, row.e)
	}
}

// P8.2: random clocks, samples and levels.
func TestManyBits(t *testing.T) {
	r := source(11)
	found := map[api.Errno]int{}
	check := func(c eye.Clock, samples []float32, level *big.Rat) {
		t.Helper()
		wanted, wantedError := referenceBits(c, samples, level)
		bits, e := eye.Bits(c, samples, text(level))
		sameList(t, "Bits", bits, e, wanted, wantedError)
		found[e]++
	}
	for range 600 {
		check(anyClock(r), anySamples(r, r.Intn(40)), anyNumber(r))
	}
	for range 100 {
		part := func() *big.Rat { return largeNumber(r, []int{100, 300, 598}[r.Intn(3)]) }
		check(clock(minus(integer(r.Intn(9)), part()), plus(fraction(1, 3), part())), anySamples(r, r.Intn(20)), part())
	}
	for _, period := range []*big.Rat{fraction(1, 200), fraction(3, 500), fraction(4999, 1000000)} {
		for n := range 25 {
			check(clock(anyNumber(r), period), anySamples(r, n), anyNumber(r))
		}
	}
	decided(t, "Bits", found, api.OK, api.ErrMany)
}

// P8.2: samples do not change, and results share no memory.
func TestBitsChangeNothing(t *testing.T) {
	unchanged(t, []float32{1, -2, 3, 0}, func(samples []float32) {
		c := eye.Clock{Start: "0", Period: "1"}
		first, _ := eye.Bits(c, samples, "0")
		second, e := eye.Bits(c, samples, "0")
		clear(first)
		wanted, _ := referenceBits(c, samples, integer(0))
		sameList(t, "Bits", second, e, wanted, api.OK)
	})
}
