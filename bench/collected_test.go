package bench_test

import (
	"math/rand"
	"slices"
	"strings"
	"testing"

	"strobe/api"
	"strobe/bench"
)

// shot returns a shot whose range follows from its time.
func shot(instrument string, number, time int) bench.Shot {
	return bench.Shot{Instrument: instrument, Number: number, Time: time, From: time - 2, To: time + 3}
}

// P10.4: the reported shots of the example.
func TestExampleShots(t *testing.T) {
	l := []bench.Shot{shot("a", 3, 9), shot("a", 1, 3), shot("a", 3, 9)}
	shots, e := bench.Collect(l)
	same(t, "Collect", shots, e, []bench.Shot{shot("a", 1, 3), shot("a", 3, 9)}, api.OK)
	missing, e := bench.FindMissing(l)
	same(t, "FindMissing", missing, e, []bench.Missing{{Instrument: "a", Number: 2}}, api.OK)
}

// P10.4: the order of collected shots is that of times, then of the bytes of instruments, then of numbers.
func TestOrderOfShots(t *testing.T) {
	sorted := []bench.Shot{shot("b", 9, 0), shot("B", 1, 5), shot("B", 7, 5), shot("B0", 2, 5), shot("B_", 1, 5), shot("a", 3, 5), shot("a", 10, 5), shot("ab", 1, 5), shot("b", 1, 5), shot("a", 1, 6), shot("a", 2, 999999999)}
	r := source(6)
	for range 100 {
		l := append(slices.Clone(sorted), pick(r, sorted...), pick(r, sorted...))
		r.Shuffle(len(l), func(i, j int) { l[i], l[j] = l[j], l[i] })
		before := slices.Clone(l)
		shots, e := bench.Collect(l)
		same(t, "Collect", shots, e, sorted, api.OK)
		_, e = bench.FindMissing(l)
		same(t, "the shots afterwards", l, e, before, api.OK)
	}
	shots, e := bench.Collect(nil)
	same(t, "Collect of nothing", shots, e, nil, api.OK)
}

// P10.4: the missing numbers of several instruments.
func TestMissing(t *testing.T) {
	missing, e := bench.FindMissing([]bench.Shot{shot("b", 3, 1), shot("a", 1, 9), shot("B", 4, 2), shot("B", 2, 7), shot("c", 2, 1), shot("c", 1, 1)})
	same(t, "FindMissing", missing, e, []bench.Missing{{"B", 1}, {"B", 3}, {"b", 1}, {"b", 2}}, api.OK)
	missing, e = bench.FindMissing(nil)
	same(t, "FindMissing of nothing", missing, e, nil, api.OK)
	var l []bench.Shot
	for i := range 1000 {
		l = append(l, shot("a"+strings.Repeat("b", i/100)+names(100)[i%100][1:], 1000, 0))
	}
	missing, e = bench.FindMissing(l)
	isError(t, "FindMissing", e, api.OK)
	if len(missing) != 999000 || missing[999] != (bench.Missing{Instrument: missing[998].Instrument[:2], Number: 1}) && missing[999].Number != 1 {
		t.Errorf("FindMissing returns %d numbers", len(missing))
	}
}

// P10.4: the error of shots.
func TestShotErrors(t *testing.T) {
	var faults []fault[[]bench.Shot]
	add := func(e api.Errno, apply func(*[]bench.Shot)) {
		faults = append(faults, fault[[]bench.Shot]{apply, e})
	}
	add(api.ErrMany, func(l *[]bench.Shot) { *l = append(*l, make([]bench.Shot, 999)...) })
	for i := range 2 {
		for _, name := range badNames() {
			add(api.ErrName, func(l *[]bench.Shot) { (*l)[i].Instrument = name })
		}
		for _, n := range append(far(), 0, 1001) {
			add(api.ErrRange, func(l *[]bench.Shot) { (*l)[i].Number = n })
		}
		for _, n := range append(far(), 1000000000) {
			add(api.ErrRange, func(l *[]bench.Shot) { (*l)[i].Time = n })
		}
		for _, n := range append(slices.DeleteFunc(far(), func(n int) bool { return n == -1 }), -1000000000, 1999999999) {
			add(api.ErrRange, func(l *[]bench.Shot) { (*l)[i].From = n })
			add(api.ErrRange, func(l *[]bench.Shot) { (*l)[i].To = n })
		}
	}
	for _, conflict := range []bench.Shot{shot("a", 1, 4), {"a", 1, 3, 2, 6}, {"a", 1, 3, 1, 7}} {
		add(api.ErrConflict, func(l *[]bench.Shot) { (*l)[1] = conflict })
	}
	correct := func() []bench.Shot { return []bench.Shot{shot("a", 1, 3), shot("b", 1, 3)} }
	firstFault(t, "Collect", correct, func(l []bench.Shot) api.Errno { _, e := bench.Collect(l); return e }, faults)
	firstFault(t, "FindMissing", correct, func(l []bench.Shot) api.Errno { _, e := bench.FindMissing(l); return e }, faults)
	limits := []bench.Shot{{"a", 1000, 999999999, -999999999, 1999999998}, {"a", 1, 0, 1999999998, -999999999}}
	shots, e := bench.Collect(limits)
	same(t, "Collect at the limits", shots, e, []bench.Shot{limits[1], limits[0]}, api.OK)
	isError(t, "Collect of 1000 shots", func() api.Errno { _, e := bench.Collect(slices.Repeat(limits, 500)); return e }(), api.OK)
}

// anyShots returns random shots, of which some are reported twice and some conflict.
func anyShots(r *rand.Rand) []bench.Shot {
	var l []bench.Shot
	for range r.Intn(20) {
		s := shot(pick(r, "a", "A", "ab", "b"), 1+r.Intn(12), 0)
		s.Time = pick(r, s.Number/3, s.Number/3, s.Number/3, s.Number/3, s.Number/3, s.Number/3, s.Number/3, r.Intn(5))
		if r.Intn(60) == 0 {
			s.From, s.To = pick(r, -2, -1), pick(r, 3, 4)
		}
		l = append(l, s)
	}
	if r.Intn(20) == 0 && len(l) > 0 {
		l[r.Intn(len(l))].Number = pick(r, 0, 1001, 1000)
	}
	return l
}

// P10.4: random shots have the results of the definition.
func TestReportedShots(t *testing.T) {
	r := source(7)
	found := map[api.Errno]int{}
	for range 20000 {
		l := anyShots(r)
		wanted, wantedError := referenceCollect(l)
		shots, e := bench.Collect(l)
		same(t, "Collect", shots, e, wanted, wantedError)
		found[e]++
		wantedMissing, wantedError := referenceMissing(l)
		missing, e := bench.FindMissing(l)
		same(t, "FindMissing", missing, e, wantedMissing, wantedError)
	}
	decided(t, "Collect", found, api.OK, api.ErrConflict, api.ErrRange)
}
