package measure_test

import (
	"math/big"
	"math/rand"
	"slices"
	"testing"

	"strobe/api"
	"strobe/measure"
)

// smallRecord returns a record of n small samples.
func smallRecord(r *rand.Rand, n int) []float32 {
	s := make([]float32, n)
	for i := range s {
		s[i] = float32(r.Intn(33)-16) / 4
	}
	return s
}

// P6.6: crossings are rising and falling in turn, and their times ascend.
func TestCrossingsInTurn(t *testing.T) {
	r := source(60)
	for range 200 {
		s := anyRecord(r, r.Intn(50))
		for _, level := range levels(r, s) {
			l, e := measure.Crossings(s, text(level))
			for i := 1; i < len(l); i++ {
				if l[i].Rising == l[i-1].Rising || valid(l[i].Time).Cmp(valid(l[i-1].Time)) < 0 {
					t.Errorf("the crossings %v, %d are not in turn", l, e)
				}
			}
		}
	}
}

// P6.6: a window contains the crossing of the record, and that of each record whose samples differ from it by the error at most.
func TestWindowsContainCrossings(t *testing.T) {
	r := source(61)
	found := 0
	for range 2000 {
		s := smallRecord(r, r.Intn(12))
		spread := r.Intn(16)
		e := big.NewRat(int64(spread), 32)
		windows, err := measure.Windows(s, "1/3", text(e))
		if err != api.OK {
			continue
		}
		changed := slices.Clone(s)
		for i := range changed {
			changed[i] += float32(r.Intn(2*spread+1)-spread) / 32
		}
		for _, record := range [][]float32{s, changed} {
			crossings, _ := measure.Crossings(record, "1/3")
			if len(crossings) != len(windows) {
				t.Fatalf("%d crossings in %d windows", len(crossings), len(windows))
			}
			for i, c := range crossings {
				x := valid(c.Time)
				if w := windows[i]; w.Rising != c.Rising || valid(w.Time.Low).Cmp(x) > 0 || valid(w.Time.High).Cmp(x) < 0 {
					t.Errorf("the crossing %v is not in the window %v", c, w)
				}
				found++
			}
		}
	}
	if found < 500 {
		t.Errorf("only %d crossings", found)
	}
}

// P6.6: a transition ends after it starts, and the next one starts after that and goes the other way.
func TestTransitionsInTurn(t *testing.T) {
	r := source(62)
	for range 500 {
		s := smallRecord(r, r.Intn(30))
		low := anyNumber(r)
		l, _ := measure.Transitions(s, text(low), text(plus(low, big.NewRat(1+r.Int63n(20), 7))))
		for i, x := range l {
			if valid(x.Start).Cmp(valid(x.End)) >= 0 {
				t.Errorf("the transition %v does not end after it starts", x)
			}
			if i > 0 && (x.Rising == l[i-1].Rising || valid(x.Start).Cmp(valid(l[i-1].End)) < 0) {
				t.Errorf("the transitions %v are not in turn", l)
			}
		}
	}
}

// P6.6: periods are positive, the widths between two rising crossings add up to the period, and the duty cycle is at least 0 and less than 1.
func TestWidthsAddUp(t *testing.T) {
	r := source(63)
	for range 500 {
		s := smallRecord(r, 2+r.Intn(40))
		level := text(anyNumber(r))
		periods, _ := measure.Periods(s, level)
		positive, _ := measure.Widths(s, level, true)
		negative, _ := measure.Widths(s, level, false)
		crossings, _ := measure.Crossings(s, level)
		// The width before the first rising crossing belongs to no period.
		if len(crossings) > 1 && !crossings[0].Rising {
			negative = negative[1:]
		}
		for i, period := range periods {
			sum := plus(valid(positive[i]), valid(negative[i]))
			if valid(period).Sign() <= 0 || valid(period).Cmp(sum) != 0 {
				t.Errorf("the widths %s and %s do not add up to the period %s", positive[i], negative[i], period)
			}
		}
		duty, e := measure.Duty(s, level)
		if e == api.OK && (valid(duty).Sign() < 0 || valid(duty).Cmp(integer(1)) >= 0) {
			t.Errorf("the duty cycle is %s", duty)
		}
		if (e == api.OK) != (len(periods) > 0) {
			t.Errorf("Duty: got the error %d with %d periods", e, len(periods))
		}
		phase, e := measure.Phase(s, smallRecord(r, 9), level)
		if e == api.OK && (valid(phase).Sign() < 0 || valid(phase).Cmp(integer(1)) >= 0) {
			t.Errorf("the phase is %s", phase)
		}
	}
}

// merge returns merged statistics that have no errors.
func merge(t *testing.T, a, b measure.Stats) measure.Stats {
	t.Helper()
	x, e := measure.Merge(a, b)
	if e != api.OK {
		t.Fatalf("Merge %v, %v: got the error %d", a, b, e)
	}
	return x
}

// P6.6: statistics of parts of a record, merged in any order and grouping, are those of the record, and the variance is not negative.
func TestMergeInAnyOrder(t *testing.T) {
	r := source(64)
	for range 300 {
		s := anyRecord(r, r.Intn(60))
		wanted, _ := measure.Summarize(s)
		var parts []measure.Stats
		for begin := 0; begin < len(s) || len(parts) < 2; {
			end := min(begin+r.Intn(9), len(s))
			x, _ := measure.Summarize(s[begin:end])
			parts, begin = append(parts, x), end
		}
		for len(parts) > 1 {
			r.Shuffle(len(parts), func(i, j int) { parts[i], parts[j] = parts[j], parts[i] })
			parts = append(parts[2:], merge(t, parts[0], parts[1]))
		}
		same(t, "Merge", parts[0], api.OK, wanted, api.OK)
		same(t, "Merge", merge(t, wanted, parts[0]), api.OK, merge(t, parts[0], wanted), api.OK)
		m, e := measure.Moments(wanted)
		if e == api.OK && valid(m[1]).Sign() < 0 || (e == api.OK) != (len(s) > 0) {
			t.Errorf("Moments: got %v, %d", m, e)
		}
	}
}

// P6.6: the variance of valid statistics is not negative, also of those that are of no record.
func TestVarianceIsNotNegative(t *testing.T) {
	r := source(65)
	found := 0
	for range 20000 {
		x := measure.Stats{Count: r.Intn(4), Sum: text(anyNumber(r)), Square: text(anyNumber(r)), Min: text(integer(r.Intn(9) - 6)), Max: text(integer(r.Intn(9) - 3))}
		m, e := measure.Moments(x)
		if e == api.OK {
			found++
			if valid(m[1]).Sign() < 0 || valid(m[0]).Cmp(valid(x.Min)) < 0 || valid(m[0]).Cmp(valid(x.Max)) > 0 {
				t.Errorf("Moments %v: got %v", x, m)
			}
		}
	}
	if found < 200 {
		t.Errorf("only %d valid statistics", found)
	}
}

// P6.6: parsing the canonical string of an expression whose constants are natural numbers gives this expression again.
func TestPrintedExpressionsAreRead(t *testing.T) {
	r := source(66)
	for range 3000 {
		x := randomTree(r, r.Intn(6), naturals).nodes()
		if len(x) > 64 {
			continue
		}
		source, e := measure.PrintExpr(x)
		if e != api.OK {
			t.Fatalf("PrintExpr %v: got the error %d", x, e)
		}
		again, at, e := measure.ParseExpr(source)
		sameList(t, "ParseExpr "+source, again, e, x, api.OK)
		same(t, "the offset", at, 0, 0, 0)
	}
}

// P6.6: other constants are read as expressions with the same values.
func TestPrintedConstantsAreRead(t *testing.T) {
	for _, a := range []api.Rat{"3/2", "-3/2", "-7", "0", "-999999999/999999998"} {
		source, _ := measure.PrintExpr(constant(a).nodes())
		nodes, _, _ := measure.ParseExpr(source)
		l, e := measure.Evaluate(nodes, [][]float32{{0}})
		sameList(t, "Evaluate "+source, l, e, []api.Rat{a}, api.OK)
	}
}

// P6.6: the values of a sum are the sums of the values.
func TestSumsOfValues(t *testing.T) {
	r := source(67)
	for range 500 {
		x, y := randomTree(r, r.Intn(4), naturals), randomTree(r, r.Intn(4), naturals)
		if len(x.nodes())+len(y.nodes()) > 63 {
			continue
		}
		channels := make([][]float32, 8)
		for i := range channels {
			channels[i] = smallRecord(r, 5)
		}
		a, errA := measure.Evaluate(x.nodes(), channels)
		b, errB := measure.Evaluate(y.nodes(), channels)
		sums, e := measure.Evaluate(apply("add", x, y).nodes(), channels)
		if errA != api.OK || errB != api.OK {
			continue
		}
		for i, sum := range sums {
			same(t, "the sum", sum, e, text(plus(valid(a[i]), valid(b[i]))), api.OK)
		}
	}
}

// P6.6: Evaluate counts what the other functions find.
func TestMeasurementsAgree(t *testing.T) {
	r := source(68)
	for range 100 {
		s := anyRecord(r, 1+r.Intn(30))
		x, _ := measure.Summarize(s)
		sums, e := measure.Evaluate(apply("sum", channel(0)).nodes(), [][]float32{s})
		same(t, "the last sum", sums[len(s)-1], e, x.Sum, api.OK)
		squares, e := measure.Evaluate(apply("sum", apply("mul", channel(0), channel(0))).nodes(), [][]float32{s})
		same(t, "the last sum of squares", squares[len(s)-1], e, x.Square, api.OK)
		mean, e := measure.Mean(s)
		m, _ := measure.Moments(x)
		same(t, "Mean", mean, e, m[0], api.OK)
		ends, e := measure.Range(s)
		same(t, "Range", ends, e, span(x.Min, x.Max), api.OK)
		bins, e := measure.Histogram(s, x.Min, text(plus(valid(x.Max), integer(1))), 7)
		total := 0
		for _, n := range bins {
			total += n
		}
		same(t, "the number of samples in bins", total, e, len(s), api.OK)
	}
}

// P1: no function panics, whatever its arguments are.
func TestArbitraryArguments(t *testing.T) {
	r := source(69)
	rat := func() api.Rat {
		return []api.Rat{"", "x", "0", "1", "-1/2", nines(600), nines(601), "1/0", api.Rat([]byte{byte(r.Intn(256))})}[r.Intn(9)]
	}
	record := func() []float32 {
		if r.Intn(4) == 0 {
			return notFinite()
		}
		return anyRecord(r, r.Intn(9))
	}
	count := func() int { return append(far(), 0, 1, 3, 8, 256)[r.Intn(10)] }
	stats := func() measure.Stats {
		return measure.Stats{Count: count(), Sum: rat(), Square: rat(), Min: rat(), Max: rat()}
	}
	const bytes = "()+-*/c0189absdiffum \x00\xff"
	for range 20000 {
		a, b, x, y := record(), record(), rat(), rat()
		measure.Histogram(a, x, y, count())
		measure.FindLevels(a)
		measure.Windows(a, x, y)
		measure.Transitions(a, x, y)
		measure.Widths(a, x, r.Intn(2) == 0)
		measure.Duty(a, x)
		measure.Phase(a, b, x)
		measure.FindJitter(a, x)
		measure.Merge(stats(), stats())
		measure.Moments(stats())
		var nodes []measure.Node
		for range r.Intn(6) {
			nodes = append(nodes, measure.Node{Op: append(allOperators(), "num", "ch", "ch", "ch", "")[r.Intn(13)], Value: []api.Rat{"", "", "", "1", rat()}[r.Intn(5)], Channel: max(0, count()) % 9})
		}
		measure.PrintExpr(nodes)
		measure.UnitOf(nodes, make([]measure.Unit, r.Intn(10)))
		measure.Evaluate(nodes, [][]float32{a, b}[:r.Intn(3)])
		source := make([]byte, r.Intn(9))
		for i := range source {
			source[i] = bytes[r.Intn(len(bytes))]
		}
		measure.ParseExpr(string(source))
	}
}
