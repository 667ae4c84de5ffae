package spectrum_test

import (
	"math/big"
	"math/rand"
	"slices"
	"testing"

	"strobe/api"
	"strobe/spectrum"
)

// anyRecords returns records of n small numbers.
func anyRecords(r *rand.Rand, records, n int) [][]api.Rat {
	l := make([][]api.Rat, records)
	for i := range l {
		l[i] = anyValues(r, n)
	}
	return l
}

// meanOf returns the mean of records, by the definition.
func meanOf(records [][]api.Rat) []*big.Rat {
	var means []*big.Rat
	for j := range records[0] {
		sum := integer(0)
		for _, record := range records {
			sum = plus(sum, valid(record[j]))
		}
		means = append(means, over(sum, integer(len(records))))
	}
	return means
}

// meanPowerOf returns the mean power of a bin, by the definition.
func meanPowerOf(records [][]api.Rat, k, decimals int) interval {
	sum := interval{integer(0), integer(0)}
	for _, record := range records {
		sum = sum.plus(referencePower(valids(record), k, decimals))
	}
	return product(big.NewRat(1, int64(len(records))), sum)
}

// sumOf returns the sum of the products of the values of a and b at j and at another index, modulo the length.
func sumOf(a, b []api.Rat, other func(int) int) *big.Rat {
	sum := integer(0)
	for j, x := range a {
		sum = plus(sum, times(valid(x), valid(b[modulo(other(j), len(b))])))
	}
	return sum
}

// convolutionOf returns the cyclic convolution, by the definition.
func convolutionOf(a, b []api.Rat) []*big.Rat {
	var l []*big.Rat
	for i := range a {
		l = append(l, sumOf(a, b, func(j int) int { return i - j }))
	}
	return l
}

// correlationOf returns the cyclic correlation, by the definition.
func correlationOf(a, b []api.Rat) []*big.Rat {
	var l []*big.Rat
	for s := range a {
		l = append(l, sumOf(a, b, func(j int) int { return j + s }))
	}
	return l
}

// delayOf returns the delay, by the definition.
func delayOf(a, b []api.Rat) int {
	l := correlationOf(a, b)
	greatest := slices.MaxFunc(l, (*big.Rat).Cmp)
	return slices.IndexFunc(l, func(x *big.Rat) bool { return x.Cmp(greatest) == 0 })
}

// P7.4: the examples 4 and 5 of the chapter.
func TestAverageExamples(t *testing.T) {
	l, e := spectrum.Cyclic([]api.Rat{"1", "2", "0"}, []api.Rat{"0", "1", "0"})
	sameList(t, "Cyclic", l, e, []api.Rat{"0", "1", "2"}, api.OK)
	l, e = spectrum.Cross([]api.Rat{"1", "2", "0"}, []api.Rat{"0", "1", "2"})
	sameList(t, "Cross", l, e, []api.Rat{"2", "5", "2"}, api.OK)
	delay, e := spectrum.Delay([]api.Rat{"1", "2", "0"}, []api.Rat{"0", "1", "2"})
	same(t, "Delay", delay, e, 1, api.OK)
	records := [][]api.Rat{{"1", "-1"}, {"3", "1"}}
	l, e = spectrum.Mean(records)
	sameList(t, "Mean", l, e, []api.Rat{"2", "0"}, api.OK)
	p, e := spectrum.MeanPower(records, 1, 3)
	same(t, "MeanPower", p, e, span("4", "4"), api.OK)
}

// P7.4: means and mean powers of up to 32 records of up to 64 values.
func TestAverages(t *testing.T) {
	r := source(30)
	for n := 1; n <= 64; n += 1 + r.Intn(5) {
		records := anyRecords(r, 1+r.Intn(32), n)
		l, e := spectrum.Mean(records)
		sameList(t, "Mean", l, e, texts(meanOf(records)), api.OK)
		k, decimals := r.Intn(n), 1+r.Intn(12)
		few := records[:1+r.Intn(min(len(records), 4))]
		p, e := spectrum.MeanPower(few, k, decimals)
		wanted, wantedError := meanPowerOf(few, k, decimals).write()
		same(t, "MeanPower", p, e, wanted, wantedError)
	}
	records := anyRecords(r, 32, 5)
	p, e := spectrum.MeanPower(records, 2, 4)
	wanted, wantedError := meanPowerOf(records, 2, 4).write()
	same(t, "MeanPower", p, e, wanted, wantedError)
	full := anyRecords(r, 32, 64)
	l, e := spectrum.Mean(full)
	sameList(t, "Mean", l, e, texts(meanOf(full)), api.OK)
}

// P7.4: a record is examined with its values and its length before the next one, and all records before a bin and decimals.
func TestRecordErrors(t *testing.T) {
	type badRecords struct {
		l [][]api.Rat
		e api.Errno
	}
	one, two := []api.Rat{"1"}, []api.Rat{"1", "2"}
	rows := []badRecords{
		{nil, api.ErrEmpty}, {[][]api.Rat{}, api.ErrEmpty}, {make([][]api.Rat, 33), api.ErrMany}, {slices.Repeat([][]api.Rat{one}, 33), api.ErrMany},
		{make([][]api.Rat, 32), api.ErrEmpty}, {[][]api.Rat{one, two}, api.ErrShape}, {[][]api.Rat{two, one}, api.ErrShape}, {[][]api.Rat{one, nil}, api.ErrEmpty},
		{[][]api.Rat{one, one, two}, api.ErrShape}, {[][]api.Rat{one, two, {"x"}}, api.ErrShape}, {[][]api.Rat{one, {"x"}, two}, api.ErrForm},
		{[][]api.Rat{one, {"1", "x"}}, api.ErrForm}, {[][]api.Rat{one, {nines(601), "2"}}, api.ErrLarge}, {[][]api.Rat{one, zeroes(65)}, api.ErrMany}, {[][]api.Rat{zeroes(65), one}, api.ErrMany},
		{append(slices.Repeat([][]api.Rat{one}, 31), two), api.ErrShape},
	}
	for _, bad := range badLists() {
		rows = append(rows, badRecords{[][]api.Rat{bad.l}, bad.e}, badRecords{[][]api.Rat{one, bad.l}, bad.e}, badRecords{[][]api.Rat{bad.l, one, bad.l}, bad.e})
	}
	for _, row := range rows {
		l, e := spectrum.Mean(row.l)
		sameList(t, "Mean", l, e, nil, row.e)
		for _, k := range append(far(), 0) {
			for _, decimals := range []int{0, 3} {
				p, e := spectrum.MeanPower(row.l, k, decimals)
				same(t, "MeanPower", p, e, api.Span{}, row.e)
			}
		}
	}
	for _, k := range append(far(), 2) {
		p, e := spectrum.MeanPower([][]api.Rat{two, two}, k, 3)
		same(t, "MeanPower", p, e, api.Span{}, api.ErrRange)
	}
	for _, decimals := range badDecimals() {
		p, e := spectrum.MeanPower([][]api.Rat{two, two}, 1, decimals)
		same(t, "MeanPower", p, e, api.Span{}, api.ErrRange)
	}
}

// P7.4: sums may have more digits than the means, and means may have too many.
func TestLargeAverages(t *testing.T) {
	x := largeNumber(source(31), 600)
	rest := text(minus(integer(1), x))
	l, e := spectrum.Mean([][]api.Rat{{text(x)}, {rest}})
	sameList(t, "Mean", l, e, []api.Rat{"1/2"}, api.OK)
	l, e = spectrum.Mean([][]api.Rat{{nines(600)}, {nines(600)}, {nines(600)}})
	sameList(t, "Mean", l, e, []api.Rat{nines(600)}, api.OK)
	l, e = spectrum.Mean([][]api.Rat{{"0", "1/" + nines(600)}, {"0", "0"}})
	sameList(t, "Mean", l, e, nil, api.ErrLarge)
	p, e := spectrum.MeanPower([][]api.Rat{{nines(300)}, {nines(300)}}, 0, 3)
	same(t, "MeanPower", p, e, span(text(times(valid(nines(300)), valid(nines(300)))), text(times(valid(nines(300)), valid(nines(300))))), api.OK)
	p, e = spectrum.MeanPower([][]api.Rat{{"0"}, {nines(301)}}, 0, 3)
	same(t, "MeanPower", p, e, api.Span{}, api.ErrLarge)
	// The powers have 1196 digits, their mean is 1/2.
	a, b := hypotenuse(299)
	p, e = spectrum.MeanPower([][]api.Rat{{text(a)}, {text(b)}}, 0, 3)
	same(t, "MeanPower", p, e, span("1/2", "1/2"), api.OK)
}

// P7.4: convolutions, correlations and delays of all lengths.
func TestCorrelations(t *testing.T) {
	r := source(32)
	for n := 1; n <= 64; n += 1 + r.Intn(3) {
		a, b := anyValues(r, n), anyValues(r, n)
		l, e := spectrum.Cyclic(a, b)
		sameList(t, "Cyclic", l, e, texts(convolutionOf(a, b)), api.OK)
		l, e = spectrum.Cross(a, b)
		sameList(t, "Cross", l, e, texts(correlationOf(a, b)), api.OK)
		delay, e := spectrum.Delay(a, b)
		same(t, "Delay", delay, e, delayOf(a, b), api.OK)
	}
}

// P7.4: of several greatest numbers the one with the least index is the delay.
func TestDelay(t *testing.T) {
	for _, row := range []struct {
		a, b  []api.Rat
		delay int
	}{
		{[]api.Rat{"7"}, []api.Rat{"-1/2"}, 0}, {[]api.Rat{"0", "0", "0"}, []api.Rat{"1", "2", "3"}, 0}, {[]api.Rat{"1", "1", "1"}, []api.Rat{"1", "2", "3"}, 0},
		{[]api.Rat{"1", "0", "0", "0"}, []api.Rat{"0", "1", "0", "1"}, 1}, {[]api.Rat{"1", "0", "0", "0"}, []api.Rat{"-3", "-1", "-2", "-1"}, 1}, {[]api.Rat{"0", "1", "0", "0"}, []api.Rat{"1", "0", "0", "0"}, 3},
		{[]api.Rat{"-1", "0", "0"}, []api.Rat{"3", "2", "1"}, 2},
	} {
		delay, e := spectrum.Delay(row.a, row.b)
		same(t, "Delay", delay, e, row.delay, api.OK)
	}
	r := source(33)
	for range 500 {
		n := 1 + r.Intn(8)
		a, b := make([]api.Rat, n), make([]api.Rat, n)
		for j := range a {
			a[j], b[j] = text(integer(r.Intn(3)-1)), text(integer(r.Intn(3)-1))
		}
		delay, e := spectrum.Delay(a, b)
		same(t, "Delay", delay, e, delayOf(a, b), api.OK)
	}
}

// P7.4: products and sums may have more digits than a result may have, and a delay needs none.
func TestLargeCorrelations(t *testing.T) {
	x := largeNumber(source(34), 600)
	values, ones := []api.Rat{text(x), text(minus(integer(1), x)), "0"}, []api.Rat{"1", "1", "1"}
	l, e := spectrum.Cyclic(values, ones)
	sameList(t, "Cyclic", l, e, ones, api.OK)
	l, e = spectrum.Cross(values, ones)
	sameList(t, "Cross", l, e, ones, api.OK)
	a, b := hypotenuse(299)
	pair := []api.Rat{text(a), text(b)}
	l, e = spectrum.Cross(pair, pair)
	sameList(t, "Cross", l, e, nil, api.ErrLarge)
	// The first sum is 0, the second one has 1196 digits.
	opposite := []api.Rat{text(b), text(minus(integer(0), a))}
	l, e = spectrum.Cross(pair, opposite)
	sameList(t, "Cross", l, e, nil, api.ErrLarge)
	l, e = spectrum.Cross(pair[:1], []api.Rat{text(over(integer(1), a))})
	sameList(t, "Cross", l, e, []api.Rat{"1"}, api.OK)
	delay, e := spectrum.Delay(pair, []api.Rat{text(b), text(a)})
	same(t, "Delay", delay, e, 1, api.OK)
	delay, e = spectrum.Delay(pair, pair)
	same(t, "Delay", delay, e, 0, api.OK)
	l, e = spectrum.Cyclic([]api.Rat{"1", nines(300)}, []api.Rat{"0", nines(301)})
	sameList(t, "Cyclic", l, e, nil, api.ErrLarge)
	l, e = spectrum.Cyclic([]api.Rat{"1", nines(300)}, []api.Rat{"0", nines(300)})
	sameList(t, "Cyclic", l, e, []api.Rat{text(times(valid(nines(300)), valid(nines(300)))), nines(300)}, api.OK)
}

// P7.4: both lists are examined from left to right, and then their lengths.
func TestPairErrors(t *testing.T) {
	check := func(a, b []api.Rat, wanted api.Errno) {
		t.Helper()
		l, e := spectrum.Cyclic(a, b)
		sameList(t, "Cyclic", l, e, nil, wanted)
		l, e = spectrum.Cross(a, b)
		sameList(t, "Cross", l, e, nil, wanted)
		delay, e := spectrum.Delay(a, b)
		same(t, "Delay", delay, e, 0, wanted)
	}
	for i, bad := range badLists() {
		check(bad.l, []api.Rat{"1"}, bad.e)
		check([]api.Rat{"1"}, bad.l, bad.e)
		check([]api.Rat{"1", "2"}, bad.l, bad.e)
		check(bad.l, badLists()[len(badLists())-1-i].l, bad.e)
	}
	check([]api.Rat{"1", "2"}, []api.Rat{"1"}, api.ErrShape)
	check([]api.Rat{"1"}, []api.Rat{"1", "2"}, api.ErrShape)
	check(zeroes(64), zeroes(63), api.ErrShape)
}

// P7.4: arguments do not change.
func TestAveragesKeepArguments(t *testing.T) {
	b := []api.Rat{"4", "5", "1/3"}
	unchanged(t, []api.Rat{"3", "1", "-2"}, func(a []api.Rat) {
		unchanged(t, b, func(b []api.Rat) {
			spectrum.Cyclic(a, b)
			spectrum.Cross(a, b)
			spectrum.Delay(a, b)
			spectrum.Mean([][]api.Rat{a, b})
			spectrum.MeanPower([][]api.Rat{a, b}, 1, 3)
		})
	})
}
