package wave_test

import (
	"math"
	"math/big"
	"slices"
	"testing"

	"strobe/api"
	"strobe/wave"
)

// P5.4: the examples of the chapter.
func TestCrossingExamples(t *testing.T) {
	crossings, e := wave.Crossings(exampleRecord(), "5/2")
	sameList(t, "Crossings", crossings, e, []wave.Crossing{{At: "3/2", Up: true}}, api.OK)
	crossings, e = wave.Crossings([]float32{0, 1, 0}, "1/2")
	sameList(t, "Crossings", crossings, e, []wave.Crossing{{At: "1/2", Up: true}, {At: "3/2"}}, api.OK)
	passages, e := wave.Passages(exampleRecord(), "5/2", wave.Signal{Bend: "2", Noise: "0"})
	sameList(t, "Passages", passages, e, []wave.Passage{{Time: span("17/12", "19/12"), Up: true}}, api.OK)
	at, e := wave.Reached(exampleRecord(), "5/2")
	same(t, "Reached", at, e, "3/2", api.OK)
}

// P5.4: a sample at the level is high.
func TestCrossingsAtLevel(t *testing.T) {
	for _, row := range []struct {
		samples []float32
		level   api.Rat
		wanted  []wave.Crossing
	}{
		{[]float32{0, 1, 0}, "1", []wave.Crossing{{At: "1", Up: true}, {At: "1"}}},
		{[]float32{1, 0, 1}, "1", []wave.Crossing{{At: "0"}, {At: "2", Up: true}}},
		{[]float32{0, 1, 1, 0}, "1", []wave.Crossing{{At: "1", Up: true}, {At: "2"}}},
		{[]float32{1, 1, 2, 1}, "1", nil},
		{[]float32{-1, negativeZero(), -1, 0, 1}, "0", []wave.Crossing{{At: "1", Up: true}, {At: "1"}, {At: "3", Up: true}}},
		{[]float32{5}, "5", nil}, {nil, "5", nil}, {[]float32{5, 6}, "5", nil}, {[]float32{6, 5}, "5", nil},
	} {
		got, e := wave.Crossings(row.samples, row.level)
		sameList(t, "Crossings", got, e, row.wanted, api.OK)
	}
}

// levels returns levels for a record: those of samples, those in the middle of two, and others.
func levels(samples []float32) []*big.Rat {
	l := []*big.Rat{integer(0), big.NewRat(1, 3), integer(100)}
	for i := range min(len(samples), 3) {
		other := exact(samples[len(samples)-1-i])
		l = append(l, exact(samples[i]), times(plus(exact(samples[i]), other), big.NewRat(1, 2)))
	}
	return l
}

// P5.4: the crossings of random records.
func TestCrossings(t *testing.T) {
	r := source(30)
	for range 300 {
		samples := anyRecord(r, r.Intn(30))
		for _, level := range levels(samples) {
			wanted, wantedError := referenceCrossings(samples, level)
			got, e := wave.Crossings(samples, text(level))
			sameList(t, "Crossings", got, e, wanted, wantedError)
		}
	}
	samples := anyRecord(r, 4096)
	wanted, wantedError := referenceCrossings(samples, big.NewRat(1, 7))
	got, e := wave.Crossings(samples, "1/7")
	sameList(t, "Crossings", got, e, wanted, wantedError)
}

// P5.4: levels with the most digits: the times have too many, or just not, and only those of crossings count.
func TestCrossingSizes(t *testing.T) {
	r := source(31)
	errors := map[api.Errno]int{}
	for range 200 {
		samples := make([]float32, 10)
		for i := range samples {
			samples[i] = float32(r.Intn(5)-2) / 2
		}
		level := largeNumber(r, []int{590, 599, 600}[r.Intn(3)])
		wanted, wantedError := referenceCrossings(samples, level)
		got, e := wave.Crossings(samples, text(level))
		sameList(t, "Crossings", got, e, wanted, wantedError)
		errors[e]++
		slices.Sort(samples)
		checkReached(t, samples, level)
	}
	if errors[api.OK] == 0 || errors[api.ErrLarge] == 0 {
		t.Errorf("the sizes decide nothing: %v", errors)
	}
	for _, level := range []api.Rat{nines(600), "-" + nines(600)} {
		got, e := wave.Crossings(exampleRecord(), level)
		sameList(t, "Crossings", got, e, nil, api.OK)
	}
	for _, row := range []struct {
		samples []float32
		wanted  []wave.Crossing
		e       api.Errno
	}{{[]float32{0, 9}, []wave.Crossing{{At: "1/9" + zeros(599), Up: true}}, api.OK}, {[]float32{0, 11}, nil, api.ErrLarge}, {[]float32{0, 9, 0, 11}, nil, api.ErrLarge}, {[]float32{11, 9, 11}, nil, api.OK}} {
		got, e := wave.Crossings(row.samples, "1/1"+zeros(599))
		sameList(t, "Crossings", got, e, row.wanted, row.e)
	}
}

// checkPassages compares passages with the definition.
func checkPassages(t *testing.T, samples []float32, level *big.Rat, s wave.Signal) int {
	t.Helper()
	wanted, wantedError := referencePassages(samples, level, s)
	got, e := wave.Passages(samples, text(level), s)
	sameList(t, "Passages "+string(text(level)), got, e, wanted, wantedError)
	return len(got)
}

// P5.4: the passages of random records with noise and bends of all sizes.
func TestPassages(t *testing.T) {
	r := source(32)
	found := 0
	for range 400 {
		samples := anyRecord(r, r.Intn(30))
		for _, level := range levels(samples) {
			s := wave.Signal{Bend: text(anyBound(r)), Noise: text(times(anyBound(r), big.NewRat(1, 2)))}
			found += checkPassages(t, samples, level, s)
			found += checkPassages(t, samples, level, wave.Signal{Bend: "0", Noise: "0"})
		}
	}
	if found < 1000 {
		t.Errorf("only %d passages", found)
	}
	for _, n := range []int{1, 2, 4096} {
		samples := anyRecord(r, n)
		checkPassages(t, samples, big.NewRat(1, 7), wave.Signal{Bend: "1/2", Noise: "1/5"})
	}
}

// P5.4: samples at the distance of the noise from the level are undecided, and a bend begins and ends passages at their samples.
func TestPassagesAtMargins(t *testing.T) {
	for _, row := range []struct {
		samples []float32
		s       wave.Signal
		wanted  []wave.Passage
	}{
		{[]float32{-2, 2}, wave.Signal{Bend: "0", Noise: "1"}, []wave.Passage{{Time: span("1/4", "3/4"), Up: true}}},
		{[]float32{2, -2}, wave.Signal{Bend: "0", Noise: "1"}, []wave.Passage{{Time: span("1/4", "3/4")}}},
		{[]float32{-2, 2}, wave.Signal{Bend: "0", Noise: "2"}, nil},
		{[]float32{-2, 2}, wave.Signal{Bend: "8", Noise: "1"}, []wave.Passage{{Time: span("0", "1"), Up: true}}},
		{[]float32{-2, 2}, wave.Signal{Bend: "800", Noise: "1"}, []wave.Passage{{Time: span("0", "1"), Up: true}}},
		{[]float32{2, -2}, wave.Signal{Bend: "800", Noise: "1"}, []wave.Passage{{Time: span("0", "1")}}},
		{[]float32{-4, 1, -1, 4}, wave.Signal{Bend: "0", Noise: "1"}, []wave.Passage{{Time: span("3/5", "12/5"), Up: true}}},
		{[]float32{-4, 1, -1, 4}, wave.Signal{Bend: "8", Noise: "1"}, []wave.Passage{{Time: span("2/5", "13/5"), Up: true}}},
		{[]float32{4, -1, 1, -4}, wave.Signal{Bend: "8", Noise: "1"}, []wave.Passage{{Time: span("2/5", "13/5")}}},
		{[]float32{-4, -1, 1, -4}, wave.Signal{Bend: "0", Noise: "1"}, nil},
		{[]float32{1, 1, -2, -1, 0, 2, 0, 0, -2, 1}, wave.Signal{Bend: "0", Noise: "1"}, []wave.Passage{{Time: span("3", "9/2"), Up: true}, {Time: span("11/2", "15/2")}}},
		{[]float32{-1, 0, 1, 0, -1}, wave.Signal{Bend: "0", Noise: "0"}, []wave.Passage{{Time: span("1", "1"), Up: true}, {Time: span("3", "3")}}},
		{[]float32{-1, 0, 0, 1}, wave.Signal{Bend: "0", Noise: "0"}, []wave.Passage{{Time: span("1", "2"), Up: true}}},
		{[]float32{0, 1}, wave.Signal{Bend: "0", Noise: "0"}, nil}, {[]float32{-1, negativeZero()}, wave.Signal{Bend: "0", Noise: "0"}, nil},
	} {
		got, e := wave.Passages(row.samples, "0", row.s)
		sameList(t, "Passages", got, e, row.wanted, api.OK)
	}
}

// P5.4: bounds and levels with the most digits.
func TestPassageSizes(t *testing.T) {
	r := source(33)
	errors := map[api.Errno]int{}
	for i := range 60 {
		samples := make([]float32, 8)
		for k := range samples {
			samples[k] = float32(r.Intn(9) - 4)
		}
		digits := []int{190, 200, 599, 600}
		pick := func() *big.Rat { return largeNumber(r, digits[r.Intn(4)]) }
		level, bend, noise := pick(), pick(), pick()
		if i%2 == 0 {
			bend = integer(0)
		}
		if i%4 < 2 {
			noise = integer(0)
		}
		s := wave.Signal{Bend: text(bend), Noise: text(noise)}
		checkPassages(t, samples, level, s)
		_, e := wave.Passages(samples, text(level), s)
		errors[e]++
	}
	if errors[api.OK] == 0 || errors[api.ErrLarge] == 0 {
		t.Errorf("the sizes decide nothing: %v", errors)
	}
	for _, s := range []wave.Signal{{Bend: "0", Noise: nines(600)}, {Bend: nines(600), Noise: "0"}, {Bend: nines(600), Noise: "1/" + nines(600)}} {
		checkPassages(t, []float32{-1, 0, 3, -2}, integer(0), s)
	}
}

// P5.4: the margin has more digits than a number may have, but the times have not.
func TestPassagesOnTheWay(t *testing.T) {
	s := wave.Signal{Bend: "1/" + nines(600), Noise: "1/1" + zeros(599)}
	if _, e := rat(plus(valid(s.Noise), over(valid(s.Bend), integer(8)))); e != api.ErrLarge {
		t.Fatal("the margin has only few digits")
	}
	got, e := wave.Passages([]float32{-1, 0, 1}, "0", wave.Signal{Bend: nines(600), Noise: "1/1" + zeros(599)})
	sameList(t, "Passages", got, e, []wave.Passage{{Time: span("0", "2"), Up: true}}, api.OK)
	got, e = wave.Passages([]float32{-1, 0, 1}, "0", s)
	sameList(t, "Passages", got, e, nil, api.ErrLarge)
	got, e = wave.Passages([]float32{1, 0, 1}, "0", s)
	sameList(t, "Passages", got, e, nil, api.OK)
}

// checkReached compares the first time at a level with the definition.
func checkReached(t *testing.T, samples []float32, level *big.Rat) {
	t.Helper()
	l := []*big.Rat{integer(len(samples) - 1)}
	if len(samples) > 1 {
		l = moments(samples, 0, len(samples)-1, level)
	}
	wanted, wantedError := api.Rat(""), api.ErrNone
	if i := slices.IndexFunc(l, func(at *big.Rat) bool { return line(samples, at).Cmp(level) >= 0 }); i >= 0 {
		wanted, wantedError = rat(l[i])
	}
	got, e := wave.Reached(samples, text(level))
	same(t, "Reached "+level.RatString(), got, e, wanted, wantedError)
}

// P5.4: the first times of random records that never fall.
func TestReached(t *testing.T) {
	r := source(34)
	for range 300 {
		samples := anyRecord(r, 1+r.Intn(20))
		slices.Sort(samples)
		for _, level := range levels(samples) {
			checkReached(t, samples, level)
		}
	}
	for _, row := range []struct {
		samples []float32
		level   api.Rat
		wanted  api.Rat
	}{
		{[]float32{3}, "3", "0"}, {[]float32{3}, "-7/2", "0"}, {[]float32{0, 1, 1, 2}, "1", "1"}, {[]float32{0, 0, 0, 1}, "0", "0"}, {[]float32{0, negativeZero(), 0, 1}, "1", "3"},
		{[]float32{-math.MaxFloat32, math.MaxFloat32}, "0", "1/2"}, {[]float32{0, math.SmallestNonzeroFloat32}, "0", "0"}, {[]float32{1, 1}, "-" + nines(600), "0"},
	} {
		got, e := wave.Reached(row.samples, row.level)
		same(t, "Reached", got, e, row.wanted, api.OK)
	}
}

// P5.4: the errors of records, levels and bounds, in their order.
func TestCrossingErrors(t *testing.T) {
	good, bad := wave.Signal{Bend: "1", Noise: "1"}, wave.Signal{Bend: "x", Noise: "-1"}
	check := func(samples []float32, level api.Rat, wanted api.Errno) {
		t.Helper()
		crossings, e := wave.Crossings(samples, level)
		sameList(t, "Crossings", crossings, e, nil, wanted)
		for _, s := range []wave.Signal{good, bad} {
			passages, e := wave.Passages(samples, level, s)
			sameList(t, "Passages", passages, e, nil, wanted)
		}
	}
	for wanted, records := range badRecords() {
		for _, samples := range records {
			check(samples, "x", wanted)
			check(samples, "0", wanted)
		}
	}
	for _, wrong := range badNumbers() {
		check(exampleRecord(), wrong.a, wrong.e)
		check(nil, wrong.a, wrong.e)
	}
	for s, wanted := range badSignals() {
		passages, e := wave.Passages(exampleRecord(), "-5/2", s)
		sameList(t, "Passages", passages, e, nil, wanted)
		passages, e = wave.Passages(nil, "1", s)
		sameList(t, "Passages", passages, e, nil, wanted)
	}
}

// P5.4: the errors of Reached, in their order.
func TestReachedErrors(t *testing.T) {
	check := func(samples []float32, level api.Rat, wanted api.Errno) {
		t.Helper()
		got, e := wave.Reached(samples, level)
		same(t, "Reached", got, e, "", wanted)
	}
	for wanted, records := range badRecords() {
		for _, samples := range records {
			check(samples, "x", wanted)
			check(samples, "0", wanted)
		}
	}
	for _, wrong := range badNumbers() {
		check(nil, wrong.a, api.ErrShort)
		check([]float32{2, 1}, wrong.a, wrong.e)
		check([]float32{1, 2}, wrong.a, wrong.e)
	}
	check(nil, "0", api.ErrShort)
	for _, level := range []api.Rat{"0", "3/2", "2", "100"} {
		check([]float32{2, 1}, level, api.ErrOrder)
		check([]float32{0, 1, 1, 0.5, 3}, level, api.ErrOrder)
		check([]float32{0, -math.SmallestNonzeroFloat32}, level, api.ErrOrder)
	}
	check([]float32{1, 2}, "5/2", api.ErrNone)
	check([]float32{1, 2}, "2"+zeros(400)+"1/1"+zeros(401), api.ErrNone)
	check([]float32{-1}, "0", api.ErrNone)
}

// P5.4: samples do not change.
func TestCrossingsChangeNothing(t *testing.T) {
	unchanged(t, []float32{1, negativeZero(), 3, -2, 5}, func(samples []float32) {
		wave.Crossings(samples, "1/2")
		wave.Passages(samples, "1/2", wave.Signal{Bend: "1", Noise: "1/3"})
	})
	unchanged(t, []float32{negativeZero(), 1, 2}, func(samples []float32) { wave.Reached(samples, "1/2") })
}
