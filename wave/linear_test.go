package wave_test

import (
	"math"
	"math/big"
	"testing"

	"strobe/api"
	"strobe/wave"
)

// P5.1: the errors of bounds, and their order.
func TestCheckSignal(t *testing.T) {
	for _, s := range []wave.Signal{{Bend: "0", Noise: "0"}, {Bend: "2", Noise: "1/8"}, {Bend: nines(600), Noise: "1/" + nines(600)}} {
		same(t, "CheckSignal", s, wave.CheckSignal(s), s, api.OK)
	}
	for s, e := range badSignals() {
		same(t, "CheckSignal", s, wave.CheckSignal(s), s, e)
	}
	same(t, "CheckSignal", 0, wave.CheckSignal(wave.Signal{}), 0, api.ErrForm)
}

// P5.1: the limits of refinement and of polynomials.
func TestLimits(t *testing.T) {
	same(t, "the limits", [2]int{wave.MaxRefine, wave.MaxCoeffs}, api.OK, [2]int{64, 16}, api.OK)
}

// P5.1: the examples of the chapter.
func TestLinearExamples(t *testing.T) {
	value, e := wave.Linear(exampleRecord(), "3/2")
	same(t, "Linear", value, e, "5/2", api.OK)
	s := wave.Signal{Bend: "2", Noise: "0"}
	values, e := wave.LinearSpan(exampleRecord(), "3/2", s)
	same(t, "LinearSpan", values, e, span("9/4", "11/4"), api.OK)
	values, e = wave.LinearSpan(exampleRecord(), "2", s)
	same(t, "LinearSpan", values, e, span("4", "4"), api.OK)
	samples, e := wave.Resampled(exampleRecord(), "1/2", "1", 3)
	sameRecord(t, "Resampled", samples, e, []float32{0.5, 2.5, 6.5}, api.OK)
	numbers, e := wave.Refined([]float32{0, 1}, 4)
	sameList(t, "Refined", numbers, e, []api.Rat{"0", "1/4", "1/2", "3/4", "1"}, api.OK)
}

// checkLinear compares the linear interpolation at a time, and its span, with the definition.
func checkLinear(t *testing.T, samples []float32, at *big.Rat, s wave.Signal) {
	t.Helper()
	wanted, wantedError := rat(line(samples, at))
	value, e := wave.Linear(samples, text(at))
	same(t, "Linear "+string(text(at)), value, e, wanted, wantedError)
	wantedSpan, wantedError := around(line(samples, at), radius(at, s))
	values, e := wave.LinearSpan(samples, text(at), s)
	same(t, "LinearSpan "+string(text(at)), values, e, wantedSpan, wantedError)
}

// P5.1: random records at random times.
func TestLinear(t *testing.T) {
	r := source(1)
	for range 1000 {
		samples := anyRecord(r, 1+r.Intn(20))
		s := wave.Signal{Bend: text(anyBound(r)), Noise: text(anyBound(r))}
		checkLinear(t, samples, anyTime(r, len(samples)), s)
	}
}

// P5.1: the first and the last time of a record, also of the longest one.
func TestLinearAtTheEnds(t *testing.T) {
	r := source(2)
	for _, n := range []int{1, 2, 3, 4095, 4096} {
		samples := anyRecord(r, n)
		samples[0] = negativeZero()
		for _, s := range []wave.Signal{{Bend: "0", Noise: "0"}, {Bend: "3", Noise: "1/7"}} {
			checkLinear(t, samples, integer(0), s)
			checkLinear(t, samples, integer(n-1), s)
			if n > 1 {
				checkLinear(t, samples, big.NewRat(1, 1e9), s)
				checkLinear(t, samples, minus(integer(n-1), big.NewRat(1, 1e9)), s)
			}
		}
	}
}

// P5.1: times and bounds with the most digits: the results have too many, or just not.
func TestLinearSizes(t *testing.T) {
	r := source(3)
	errors := map[api.Errno]int{}
	for i := range 200 {
		samples := anyRecord(r, 2)
		if i%2 == 0 {
			samples = []float32{float32(r.Intn(9)), float32(r.Intn(9))}
		}
		digits := []int{280, 299, 300, 301, 590, 600}
		pick := func() *big.Rat { return largeNumber(r, digits[r.Intn(len(digits))]) }
		at, bend, noise := pick(), pick(), pick()
		if r.Intn(2) == 0 {
			bend = integer(0)
		}
		if r.Intn(2) == 0 {
			noise = integer(0)
		}
		checkLinear(t, samples, at, wave.Signal{Bend: text(bend), Noise: text(noise)})
		_, e := wave.LinearSpan(samples, text(at), wave.Signal{Bend: text(bend), Noise: text(noise)})
		errors[e]++
	}
	if errors[api.OK] == 0 || errors[api.ErrLarge] == 0 {
		t.Errorf("the sizes decide nothing: %v", errors)
	}
}

// P5.1: the value in the middle of a span has more digits than a number may have, but its ends have not.
func TestLinearSpanOnTheWay(t *testing.T) {
	// The ends are a / (3^n 2^148) and b / (5^m 2^148). The residue of b makes their difference a multiple of 2^149 less fine.
	first := new(big.Int).Exp(big.NewInt(3), big.NewInt(620), nil)
	second := new(big.Int).Exp(big.NewInt(5), big.NewInt(424), nil)
	power := new(big.Int).Lsh(big.NewInt(1), 149)
	scale := new(big.Rat).SetFrac(big.NewInt(1), new(big.Int).Lsh(big.NewInt(1), 148))
	a := new(big.Int).Div(first, big.NewInt(4))
	a.SetBit(a, 0, 1)
	b := new(big.Int).ModInverse(first, power)
	b.Mul(b, a).Mul(b, second).Mod(b, power)
	b.Add(b, new(big.Int).Mul(new(big.Int).Div(second, new(big.Int).Mul(power, big.NewInt(2))), power))
	low, high := new(big.Rat).SetFrac(a, first), new(big.Rat).SetFrac(b, second)
	at := times(plus(low, high), big.NewRat(1, 2))
	noise := times(times(minus(high, low), big.NewRat(1, 2)), scale)
	if _, e := rat(times(at, scale)); e != api.ErrLarge || noise.Sign() <= 0 {
		t.Fatalf("the middle has only few digits, or the noise is %s", noise.RatString())
	}
	samples := []float32{0, 2 * math.SmallestNonzeroFloat32}
	values, e := wave.LinearSpan(samples, text(at), wave.Signal{Bend: "0", Noise: text(noise)})
	same(t, "LinearSpan", values, e, span(text(times(low, scale)), text(times(high, scale))), api.OK)
}

// P5.1: the errors of records, times and bounds, in their order.
func TestLinearErrors(t *testing.T) {
	check := func(samples []float32, at api.Rat, s wave.Signal, wanted api.Errno) {
		t.Helper()
		if wave.CheckSignal(s) == api.OK {
			value, e := wave.Linear(samples, at)
			same(t, "Linear", value, e, "", wanted)
		}
		values, e := wave.LinearSpan(samples, at, s)
		same(t, "LinearSpan", values, e, api.Span{}, wanted)
	}
	good, bad := wave.Signal{Bend: "1", Noise: "1"}, wave.Signal{Bend: "x", Noise: "-1"}
	for wanted, records := range badRecords() {
		for _, samples := range records {
			for _, at := range []api.Rat{"0", "-1", "x", nines(601)} {
				check(samples, at, good, wanted)
				check(samples, at, bad, wanted)
			}
		}
	}
	for _, n := range []int{1, 2, 5} {
		samples := exampleRecord()[:n]
		for _, wrong := range badTimes(n) {
			check(samples, wrong.a, good, wrong.e)
			check(samples, wrong.a, bad, wrong.e)
		}
		for s, wanted := range badSignals() {
			check(samples, "0", s, wanted)
		}
	}
	for _, at := range []api.Rat{"0", "-1", "1/2", "1"} {
		check(nil, at, good, api.ErrRange)
	}
	check(nil, "x", good, api.ErrForm)
}

// checkResampled compares resampled records with the definition. The rounding of math/big is to the nearest even float32.
func checkResampled(t *testing.T, samples []float32, from, step *big.Rat, n int) {
	t.Helper()
	wanted := make([]float32, n)
	for k := range wanted {
		f, _ := line(samples, plus(from, times(integer(k), step))).Float32()
		wanted[k] = f + 0
	}
	got, e := wave.Resampled(samples, text(from), text(step), n)
	sameRecord(t, "Resampled", got, e, wanted, api.OK)
}

// P5.1: random records.
func TestResampled(t *testing.T) {
	r := source(4)
	for range 500 {
		samples := anyRecord(r, 1+r.Intn(20))
		from, n := anyTime(r, len(samples)), 1+r.Intn(30)
		step := over(minus(integer(len(samples)-1), from), integer(n))
		if r.Intn(3) == 0 {
			step = times(step, big.NewRat(1+r.Int63n(1000), 1000))
		}
		if step.Sign() == 0 {
			step, n = big.NewRat(1, 3), 1
		}
		checkResampled(t, samples, from, step, n)
	}
}

// P5.1: values in the middle between two floats, and next to it, are rounded as number.Float does.
func TestResampledRounding(t *testing.T) {
	for _, samples := range [][]float32{
		{16777216, 16777218, 16777220}, {1, math.Nextafter32(1, 2)}, {-1, math.Nextafter32(-1, -2)}, {0, math.SmallestNonzeroFloat32, 2 * math.SmallestNonzeroFloat32},
		{0, -math.SmallestNonzeroFloat32}, {negativeZero(), 0, negativeZero()}, {math.MaxFloat32, -math.MaxFloat32}, {math.MaxFloat32, math.Nextafter32(math.MaxFloat32, 0)}, {math.MaxFloat32, math.MaxFloat32},
	} {
		half := big.NewRat(1, 2)
		little := valid("1/1" + zeros(590))
		checkResampled(t, samples, integer(0), half, 2*len(samples)-1)
		for _, from := range []*big.Rat{half, minus(half, little), plus(half, little)} {
			checkResampled(t, samples, from, big.NewRat(1, 3), 1)
		}
	}
}

// P5.1: times that have more digits than a number may have, but lie within the record.
func TestResampledOnTheWay(t *testing.T) {
	r := source(5)
	for range 20 {
		samples := anyRecord(r, 40)
		checkResampled(t, samples, largeNumber(r, 600), largeNumber(r, 600), 1+r.Intn(38))
	}
	checkResampled(t, []float32{0, 1, 2}, valid("1/1"+zeros(599)), minus(integer(1), valid("1/"+nines(599))), 2)
}

// P5.1: as many samples as a record may have, and none.
func TestResampledLengths(t *testing.T) {
	r := source(6)
	samples := anyRecord(r, 4096)
	checkResampled(t, samples, integer(0), integer(1), 4096)
	checkResampled(t, samples[:2], integer(0), big.NewRat(1, 4095), 4096)
	for _, from := range []api.Rat{"0", "-1", nines(600), "5", "1/2"} {
		got, e := wave.Resampled(exampleRecord(), from, nines(600), 0)
		sameRecord(t, "Resampled", got, e, nil, api.OK)
		got, e = wave.Resampled(nil, from, "1", 0)
		sameRecord(t, "Resampled", got, e, nil, api.OK)
	}
}

// P5.1: the errors of resampling, in their order.
func TestResampledErrors(t *testing.T) {
	check := func(samples []float32, from, step api.Rat, n int, wanted api.Errno) {
		t.Helper()
		got, e := wave.Resampled(samples, from, step, n)
		sameRecord(t, "Resampled", got, e, nil, wanted)
	}
	for wanted, records := range badRecords() {
		for _, samples := range records {
			check(samples, "x", "0", -1, wanted)
			check(samples, "0", "1", 1, wanted)
		}
	}
	for _, bad := range badNumbers() {
		check(exampleRecord(), bad.a, "0", -1, bad.e)
		check(exampleRecord(), bad.a, "1", 0, bad.e)
	}
	for _, bad := range notAbove(1) {
		check(exampleRecord(), "-1", bad.a, -1, bad.e)
		check(exampleRecord(), "0", bad.a, 0, bad.e)
	}
	for _, n := range []int{math.MinInt, -1, 4097, math.MaxInt} {
		check(exampleRecord(), "-1", "1", n, api.ErrRange)
		check(exampleRecord(), "0", "1/5000", n, api.ErrRange)
	}
	for _, row := range []struct {
		from, step api.Rat
		n          int
	}{{"-1", "1", 1}, {"-1/" + nines(600), "1", 2}, {"5", "1", 1}, {"41/10", "1", 1}, {"0", "1", 6}, {"0", "4001/1000", 2}, {"1/" + nines(599), "1", 5}, {"-1", "1", 3}, {"0", nines(600), 4096}, {"4", "1/" + nines(600), 2}} {
		check(exampleRecord(), row.from, row.step, row.n, api.ErrRange)
	}
	check(nil, "0", "1", 1, api.ErrRange)
}

// P5.1: refined records of all numbers of points.
func TestRefined(t *testing.T) {
	r := source(7)
	for n := 1; n <= wave.MaxRefine; n++ {
		for _, length := range []int{0, 1, 2, 2 + r.Intn(9)} {
			samples := anyRecord(r, length)
			var wanted []api.Rat
			for k := 0; length > 0 && k <= (length-1)*n; k++ {
				wanted = append(wanted, text(line(samples, big.NewRat(int64(k), int64(n)))))
			}
			got, e := wave.Refined(samples, n)
			sameList(t, "Refined", got, e, wanted, api.OK)
		}
	}
}

// P5.1: the errors of refining, and the longest results.
func TestRefinedErrors(t *testing.T) {
	for wanted, records := range badRecords() {
		for _, samples := range records {
			for _, n := range []int{0, 1} {
				got, e := wave.Refined(samples, n)
				sameList(t, "Refined", got, e, nil, wanted)
			}
		}
	}
	for _, n := range []int{math.MinInt, -1, 0, 65, math.MaxInt} {
		for _, length := range []int{0, 1, 4096} {
			got, e := wave.Refined(make([]float32, length), n)
			sameList(t, "Refined", got, e, nil, api.ErrRange)
		}
	}
	for n := 1; n <= wave.MaxRefine; n++ {
		longest := 4095/n + 1
		got, e := wave.Refined(make([]float32, longest), n)
		same(t, "the length", len(got), e, (longest-1)*n+1, api.OK)
		if longest == 4096 {
			continue
		}
		got, e = wave.Refined(make([]float32, longest+1), n)
		sameList(t, "Refined", got, e, nil, api.ErrMany)
	}
}

// P5.1: samples do not change.
func TestLinearChangesNothing(t *testing.T) {
	unchanged(t, []float32{negativeZero(), 3, -2}, func(samples []float32) {
		wave.Linear(samples, "1/2")
		wave.LinearSpan(samples, "1/2", wave.Signal{Bend: "1", Noise: "1"})
		wave.Refined(samples, 3)
		resampled, _ := wave.Resampled(samples, "0", "1", 3)
		clear(resampled)
	})
}
