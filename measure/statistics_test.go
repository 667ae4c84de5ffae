package measure_test

import (
	"math"
	"math/big"
	"math/rand"
	"slices"
	"testing"

	"strobe/api"
	"strobe/measure"
)

// none returns the statistics of no values.
func none() measure.Stats { return measure.Stats{Sum: "0", Square: "0", Min: "0", Max: "0"} }

// statsOf returns the statistics of values, or ErrLarge.
func statsOf(values []*big.Rat) (measure.Stats, api.Errno) {
	if len(values) == 0 {
		return none(), api.OK
	}
	least, greatest := extremes(values)
	count := integer(len(values))
	l, e := rats([]*big.Rat{times(meanOf(values, 1), count), times(meanOf(values, 2), count), least, greatest})
	if e != api.OK {
		return measure.Stats{}, e
	}
	return measure.Stats{Count: len(values), Sum: l[0], Square: l[1], Min: l[2], Max: l[3]}, api.OK
}

// momentsOf returns the mean of values, and the mean of the squares of their differences from it.
func momentsOf(values []*big.Rat) ([2]api.Rat, api.Errno) {
	mean := meanOf(values, 1)
	var differences []*big.Rat
	for _, x := range values {
		differences = append(differences, minus(x, mean))
	}
	l, e := rats([]*big.Rat{mean, meanOf(differences, 2)})
	if e != api.OK {
		return [2]api.Rat{}, e
	}
	return [2]api.Rat(l), api.OK
}

// P6.4: the examples 5 of the chapter.
func TestStatsExamples(t *testing.T) {
	x, e := measure.Summarize(exampleRecord())
	same(t, "Summarize", x, e, measure.Stats{Count: 11, Sum: "22", Square: "76", Min: "0", Max: "4"}, api.OK)
	m, e := measure.Moments(x)
	same(t, "Moments", m, e, [2]api.Rat{"2", "32/11"}, api.OK)
}

// P6.4: the statistics of random records.
func TestSummarize(t *testing.T) {
	r := source(30)
	check := func(s []float32) {
		t.Helper()
		wanted, _ := statsOf(exacts(s))
		x, e := measure.Summarize(s)
		same(t, "Summarize", x, e, wanted, api.OK)
		same(t, "CheckStats", 0, measure.CheckStats(x), 0, api.OK)
		if len(s) > 0 {
			moments, _ := momentsOf(exacts(s))
			m, e := measure.Moments(x)
			same(t, "Moments", m, e, moments, api.OK)
		}
	}
	for _, s := range [][]float32{nil, {}, {negativeZero()}, {-3}, {math.MaxFloat32, -math.MaxFloat32}, make([]float32, 4096), anyRecord(r, 4096)} {
		check(s)
	}
	for range 200 {
		check(anyRecord(r, r.Intn(20)))
	}
	unchanged(t, []float32{1, negativeZero(), 3}, func(s []float32) { measure.Summarize(s) })
}

// anyValues returns values with up to some digits in their denominators.
func anyValues(r *rand.Rand, n, digits int) []*big.Rat {
	common := largeNumber(r, digits)
	var l []*big.Rat
	for range n {
		x := anyNumber(r)
		if r.Intn(2) == 0 {
			x = times(common, integer(r.Intn(9)))
		}
		l = append(l, x)
	}
	return l
}

// P6.4: merged statistics are those of all values, and their numbers may have too many digits.
func TestMerge(t *testing.T) {
	r := source(31)
	errors := map[api.Errno]int{}
	for range 600 {
		digits := []int{1, 5, 145, 148, 150, 297, 299}[r.Intn(7)]
		a, b := anyValues(r, r.Intn(5), digits), anyValues(r, r.Intn(5), digits)
		x, errX := statsOf(a)
		y, errY := statsOf(b)
		if errX != api.OK || errY != api.OK {
			continue
		}
		same(t, "CheckStats", 0, measure.CheckStats(x), 0, api.OK)
		wanted, wantedError := statsOf(append(slices.Clone(a), b...))
		got, e := measure.Merge(x, y)
		same(t, "Merge", got, e, wanted, wantedError)
		errors[e]++
		if len(a) > 0 {
			moments, wantedError := momentsOf(a)
			m, e := measure.Moments(x)
			same(t, "Moments", m, e, moments, wantedError)
		}
	}
	if errors[api.OK] == 0 || errors[api.ErrLarge] == 0 {
		t.Errorf("the sizes decide nothing: %v", errors)
	}
}

// P6.4: a mean or a variance with too many digits.
func TestMomentSizes(t *testing.T) {
	for _, row := range []struct {
		x      measure.Stats
		wanted [2]api.Rat
		e      api.Errno
	}{
		{measure.Stats{Count: 2, Sum: "1/" + nines(600), Square: "1", Min: "-1", Max: "1"}, [2]api.Rat{}, api.ErrLarge},
		{measure.Stats{Count: 2, Sum: "0", Square: "1/" + nines(600), Min: "-1", Max: "1"}, [2]api.Rat{}, api.ErrLarge},
		{measure.Stats{Count: 2, Sum: "0", Square: "2/" + nines(600), Min: "-1", Max: "1"}, [2]api.Rat{"0", "1/" + nines(600)}, api.OK},
		{measure.Stats{Count: 2, Sum: "1/1" + zeros(300), Square: "1", Min: "-1", Max: "1"}, [2]api.Rat{}, api.ErrLarge},
		{measure.Stats{Count: 5, Sum: "1/1" + zeros(298), Square: "1", Min: "-1", Max: "1"}, [2]api.Rat{"1/5" + zeros(298), text(minus(big.NewRat(1, 5), valid("1/25"+zeros(596))))}, api.OK},
	} {
		m, e := measure.Moments(row.x)
		same(t, "Moments", m, e, row.wanted, row.e)
	}
}

// P6.4: the extremes of no values do not count.
func TestMergeNone(t *testing.T) {
	for _, x := range []measure.Stats{none(), {Count: 2, Sum: "5", Square: "13", Min: "2", Max: "3"}, {Count: 1, Sum: "-1/2", Square: "1/4", Min: "-1/2", Max: "-1/2"}} {
		got, e := measure.Merge(x, none())
		same(t, "Merge", got, e, x, api.OK)
		got, e = measure.Merge(none(), x)
		same(t, "Merge", got, e, x, api.OK)
	}
	m, e := measure.Moments(none())
	same(t, "Moments", m, e, [2]api.Rat{}, api.ErrZero)
}

// P6.4: numbers on the way have more digits than a number may have, but results have not.
func TestMomentsOnTheWay(t *testing.T) {
	// The mean has 599 digits; its square has twice as many, and the variance is that of two equal values.
	value := nines(299) + "/1" + zeros(299)
	square := text(times(valid(value), valid(value)))
	double := func(a api.Rat) api.Rat { return text(plus(valid(a), valid(a))) }
	m, e := measure.Moments(measure.Stats{Count: 2, Sum: double(value), Square: double(square), Min: value, Max: value})
	same(t, "Moments", m, e, [2]api.Rat{value, "0"}, api.OK)
	// Count times Square, and the square of Sum.
	large := measure.Stats{Count: 999999999, Sum: nines(600), Square: nines(600), Min: "0", Max: nines(600)}
	same(t, "CheckStats", 0, measure.CheckStats(large), 0, api.ErrForm)
	large = measure.Stats{Count: 1, Sum: "1" + zeros(299), Square: "1" + zeros(598), Min: "1" + zeros(299), Max: "1" + zeros(299)}
	same(t, "CheckStats", 0, measure.CheckStats(large), 0, api.OK)
	large.Square = text(plus(valid(large.Square), integer(1)))
	same(t, "CheckStats", 0, measure.CheckStats(large), 0, api.ErrForm)
}

// invalidStats returns statistics with valid numbers that no values can have.
func invalidStats() []measure.Stats {
	return []measure.Stats{
		{Count: 0, Sum: "1", Square: "0", Min: "0", Max: "0"}, {Count: 0, Sum: "0", Square: "1", Min: "0", Max: "0"}, {Count: 0, Sum: "0", Square: "-1", Min: "0", Max: "0"}, {Count: 0, Sum: "0", Square: "0", Min: "-1", Max: "0"}, {Count: 0, Sum: "0", Square: "0", Min: "0", Max: "1"}, {Count: 0, Sum: "0", Square: "0", Min: "1", Max: "1"},
		{Count: 2, Sum: "5", Square: "13", Min: "3", Max: "2"}, {Count: 1, Sum: "0", Square: "0", Min: "1", Max: "-1"},
		{Count: 2, Sum: "3", Square: "5", Min: "2", Max: "2"}, {Count: 2, Sum: "39/10", Square: "8", Min: "2", Max: "3"}, {Count: 2, Sum: "61/10", Square: "19", Min: "2", Max: "3"},
		{Count: 2, Sum: "5", Square: "62/5", Min: "2", Max: "3"}, {Count: 2, Sum: "0", Square: "-1", Min: "-1", Max: "1"}, {Count: 2, Sum: "5", Square: "181/10", Min: "2", Max: "3"}, {Count: 2, Sum: "-5", Square: "181/10", Min: "-3", Max: "-2"}, {Count: 2, Sum: "0", Square: "181/10", Min: "-3", Max: "2"},
		{Count: 1, Sum: "1/2", Square: "1/2", Min: "1/2", Max: "1/2"},
	}
}

// limitStats returns statistics that are just valid.
func limitStats() []measure.Stats {
	return []measure.Stats{
		none(), {Count: 2, Sum: "4", Square: "8", Min: "2", Max: "3"}, {Count: 2, Sum: "6", Square: "18", Min: "2", Max: "3"}, {Count: 2, Sum: "5", Square: "25/2", Min: "2", Max: "3"}, {Count: 2, Sum: "5", Square: "18", Min: "2", Max: "3"}, {Count: 2, Sum: "-5", Square: "18", Min: "-3", Max: "-2"}, {Count: 2, Sum: "0", Square: "18", Min: "-3", Max: "2"}, {Count: 2, Sum: "0", Square: "0", Min: "-3", Max: "2"},
		{Count: 999999999, Sum: "0", Square: "0", Min: "0", Max: "0"}, {Count: 1, Sum: "0", Square: "0", Min: "0", Max: "0"}, {Count: 999999999, Sum: nines(304), Square: nines(600), Min: "-" + nines(600), Max: nines(600)},
	}
}

// badStats is statistics with an error.
type badStats struct {
	x measure.Stats
	e api.Errno
}

// wrongStats returns statistics with every error, each with other errors that come later.
func wrongStats() []badStats {
	var l []badStats
	for _, x := range invalidStats() {
		l = append(l, badStats{x, api.ErrForm})
	}
	for _, count := range far() {
		l = append(l, badStats{measure.Stats{Count: count, Sum: "0", Square: "0", Min: "0", Max: "0"}, api.ErrRange}, badStats{measure.Stats{Count: count, Sum: "x", Square: "x"}, api.ErrRange})
	}
	for _, bad := range badNumbers() {
		for _, other := range []api.Rat{"x", nines(601), "1"} {
			l = append(l,
				badStats{measure.Stats{Count: 1, Sum: bad.a, Square: other, Min: other, Max: other}, bad.e},
				badStats{measure.Stats{Count: 1, Sum: "1", Square: bad.a, Min: other, Max: other}, bad.e},
				badStats{measure.Stats{Count: 0, Sum: "1", Square: "1", Min: bad.a, Max: other}, bad.e},
				badStats{measure.Stats{Count: 0, Sum: "1", Square: "-1", Min: "2", Max: bad.a}, bad.e},
			)
		}
	}
	return append(l, badStats{measure.Stats{}, api.ErrForm})
}

// P6.4: statistics with and without an error.
func TestCheckStats(t *testing.T) {
	for _, x := range limitStats() {
		same(t, "CheckStats", x, measure.CheckStats(x), x, api.OK)
		got, e := measure.Merge(x, none())
		same(t, "Merge", got, e, x, api.OK)
	}
	for _, bad := range wrongStats() {
		same(t, "CheckStats", bad.x, measure.CheckStats(bad.x), bad.x, bad.e)
		m, e := measure.Moments(bad.x)
		same(t, "Moments", m, e, [2]api.Rat{}, bad.e)
		for _, other := range []measure.Stats{none(), {Count: 999999999, Sum: "0", Square: "0", Min: "0", Max: "0"}, {Count: -1}, {Sum: "x"}} {
			got, e := measure.Merge(bad.x, other)
			same(t, "Merge", got, e, measure.Stats{}, bad.e)
		}
		got, e := measure.Merge(none(), bad.x)
		same(t, "Merge", got, e, measure.Stats{}, bad.e)
	}
}

// P6.4: the number of all values has a limit, which comes before the sizes.
func TestMergeMany(t *testing.T) {
	some := func(count int) measure.Stats {
		return measure.Stats{Count: count, Sum: "0", Square: "1/" + nines(600), Min: "-" + nines(600), Max: nines(600)}
	}
	for _, row := range []struct{ a, b int }{{999999999, 1}, {1, 999999999}, {500000000, 500000000}, {999999999, 999999999}} {
		got, e := measure.Merge(some(row.a), some(row.b))
		same(t, "Merge", got, e, measure.Stats{}, api.ErrMany)
	}
	zero := measure.Stats{Count: 999999998, Sum: "0", Square: "0", Min: "0", Max: "0"}
	one := measure.Stats{Count: 1, Sum: "-3", Square: "9", Min: "-3", Max: "-3"}
	got, e := measure.Merge(zero, one)
	same(t, "Merge", got, e, measure.Stats{Count: 999999999, Sum: "-3", Square: "9", Min: "-3", Max: "0"}, api.OK)
	other := some(1)
	other.Square = "1/1" + zeros(599)
	got, e = measure.Merge(some(1), other)
	same(t, "Merge", got, e, measure.Stats{}, api.ErrLarge)
}

// P6.4: records with an error.
func TestSummarizeErrors(t *testing.T) {
	for _, bad := range badRecords() {
		x, e := measure.Summarize(bad.s)
		same(t, "Summarize", x, e, measure.Stats{}, bad.e)
	}
}
