package probe_test

import (
	"math"
	"math/big"
	"slices"
	"testing"

	"strobe/api"
	"strobe/probe"
)

// P2.2: the examples of the chapter.
func TestExamplesOfRecords(t *testing.T) {
	samples, e := probe.Sampled(exampleAdc, []api.Rat{"-20", "0", "1/10", "20", "30"})
	sameRecord(t, "Sampled", samples, e, []float32{-16, 0, 0.125, 15.875, 15.875}, api.OK)
	codes, e := probe.Codes(exampleAdc, samples)
	sameList(t, "Codes", codes, e, []int{0, 128, 129, 255, 255}, api.OK)
	ranges, e := probe.Clipped(exampleAdc, samples)
	sameList(t, "Clipped", ranges, e, [][2]int{{0, 1}, {3, 5}}, api.OK)
	wanted := exampleAdc
	wanted.Gain, wanted.Offset = "2", "1/2"
	a, e := probe.Calibrated(exampleAdc, probe.Mark{Code: 128, Volts: "1/2"}, probe.Mark{Code: 136, Volts: "5/2"})
	same(t, "Calibrated", a, e, wanted, api.OK)
}

// P2.2: samples of voltages are the nominal voltages of their codes, and lead back to these codes.
func TestSampledAndCodes(t *testing.T) {
	r := source(2)
	for _, a := range adcs() {
		var volts []api.Rat
		var wanted []float32
		var wantedCodes []int
		for range 100 {
			v := voltage(a, r.Intn(top(a)+20)-10, r.Intn(9)-4)
			code, _ := referenceCode(a, v)
			text, _ := rat(v)
			nominal, _ := voltage(a, code, 0).Float32()
			volts, wanted, wantedCodes = append(volts, text), append(wanted, nominal), append(wantedCodes, code)
		}
		check := unchanged(t, "Sampled", volts)
		samples, e := probe.Sampled(a, volts)
		sameRecord(t, "Sampled", samples, e, wanted, api.OK)
		check()
		check = unchanged(t, "Codes", bitsOf(samples))
		codes, e := probe.Codes(a, samples)
		sameList(t, "Codes", codes, e, wantedCodes, api.OK)
		check()
	}
}

// P2.2: every code is found from its nominal voltage.
func TestCodesOfAllSamples(t *testing.T) {
	for _, a := range adcs() {
		samples := make([]float32, top(a)+1)
		wanted := make([]int, top(a)+1)
		for code := range samples {
			samples[code], _ = voltage(a, code, 0).Float32()
			wanted[code] = code
		}
		codes, e := probe.Codes(a, samples)
		sameList(t, "Codes", codes, e, wanted, api.OK)
	}
}

// P2.2: the number of voltages, and the errors of them.
func TestSampledErrors(t *testing.T) {
	samples, e := probe.Sampled(exampleAdc, nil)
	sameRecord(t, "Sampled nil", samples, e, nil, api.OK)
	most := slices.Repeat([]api.Rat{"1"}, 4096)
	samples, e = probe.Sampled(exampleAdc, most)
	sameRecord(t, "Sampled 4096", samples, e, slices.Repeat([]float32{1}, 4096), api.OK)
	samples, e = probe.Sampled(exampleAdc, append([]api.Rat{"x"}, most...))
	sameRecord(t, "Sampled 4097", samples, e, nil, api.ErrMany)
	for _, bad := range badNumbers() {
		samples, e = probe.Sampled(exampleAdc, []api.Rat{"1", bad.a, "2"})
		sameRecord(t, "Sampled", samples, e, nil, bad.e)
		samples, e = probe.Sampled(exampleAdc, append(slices.Clone(most[:4095]), bad.a))
		sameRecord(t, "Sampled", samples, e, nil, bad.e)
	}
	samples, e = probe.Sampled(exampleAdc, []api.Rat{"1", nines(601), "x"})
	sameRecord(t, "Sampled", samples, e, nil, api.ErrLarge)
	samples, e = probe.Sampled(exampleAdc, []api.Rat{"1", "x", nines(601)})
	sameRecord(t, "Sampled", samples, e, nil, api.ErrForm)
}

// P2.2: samples that are not nominal voltages, and invalid ones.
func TestCodesErrors(t *testing.T) {
	for _, row := range []struct {
		samples []float32
		codes   []int
		e       api.Errno
	}{
		{nil, nil, api.OK}, {[]float32{negativeZero(), 0}, []int{128, 128}, api.OK}, {make([]float32, 4096), slices.Repeat([]int{128}, 4096), api.OK},
		{[]float32{0, 0.0625}, nil, api.ErrRange}, {[]float32{15.875, 16}, nil, api.ErrRange}, {[]float32{-16.125}, nil, api.ErrRange}, {[]float32{math.Nextafter32(0.125, 1)}, nil, api.ErrRange}, {[]float32{math.SmallestNonzeroFloat32}, nil, api.ErrRange}, {[]float32{math.MaxFloat32}, nil, api.ErrRange}, {[]float32{-math.MaxFloat32}, nil, api.ErrRange},
		// The errors of the samples come before those of their codes.
		{append([]float32{0.0625}, notFinite()...), nil, api.ErrForm}, {append(make([]float32, 4096), notFinite()...), nil, api.ErrMany}, {append([]float32{0.0625}, make([]float32, 4096)...), nil, api.ErrMany},
	} {
		codes, e := probe.Codes(exampleAdc, row.samples)
		sameList(t, "Codes", codes, e, row.codes, row.e)
		ranges, e := probe.Clipped(exampleAdc, row.samples)
		sameList(t, "Clipped", ranges, e, nil, row.e)
	}
	for _, f := range notFinite() {
		codes, e := probe.Codes(exampleAdc, []float32{0, f})
		sameList(t, "Codes", codes, e, nil, api.ErrForm)
		ranges, e := probe.Clipped(exampleAdc, []float32{0, f})
		sameList(t, "Clipped", ranges, e, nil, api.ErrForm)
	}
}

// P2.2: the ranges with the first or the last code.
func TestClipped(t *testing.T) {
	const low, high = -16, 15.875
	for _, row := range []struct {
		samples []float32
		ranges  [][2]int
	}{
		{nil, nil}, {[]float32{0}, nil}, {[]float32{low}, [][2]int{{0, 1}}}, {[]float32{high}, [][2]int{{0, 1}}}, {[]float32{0, low}, [][2]int{{1, 2}}}, {[]float32{high, 0}, [][2]int{{0, 1}}}, {[]float32{0, high, 0}, [][2]int{{1, 2}}},
		{[]float32{low, low, 0, 0, high, high, high, 1, low}, [][2]int{{0, 2}, {4, 7}, {8, 9}}}, {[]float32{-15.875, 15.75}, nil}, {[]float32{low, 0, low, 0, low}, [][2]int{{0, 1}, {2, 3}, {4, 5}}},
		// A range may go from the one end to the other.
		{[]float32{0, low, high, 0}, [][2]int{{1, 3}}}, {[]float32{high, low, low, high}, [][2]int{{0, 4}}},
	} {
		ranges, e := probe.Clipped(exampleAdc, row.samples)
		sameList(t, "Clipped", ranges, e, row.ranges, api.OK)
	}
	r := source(3)
	for range 200 {
		samples := make([]float32, r.Intn(30))
		for i := range samples {
			samples[i] = []float32{low, high, 0, 1}[r.Intn(4)]
		}
		ranges, e := probe.Clipped(exampleAdc, samples)
		sameList(t, "Clipped", ranges, e, referenceRanges(samples, low, high), api.OK)
	}
}

// referenceRanges returns the ranges of samples that have one of two values, by their ends.
func referenceRanges(samples []float32, low, high float32) [][2]int {
	clipped := func(i int) bool {
		return i >= 0 && i < len(samples) && (samples[i] == low || samples[i] == high)
	}
	var ranges [][2]int
	for i := range len(samples) + 1 {
		if clipped(i) && !clipped(i-1) {
			ranges = append(ranges, [2]int{i, -1})
		}
		if !clipped(i) && clipped(i-1) {
			ranges[len(ranges)-1][1] = i
		}
	}
	return ranges
}

// referenceCalibrated returns the converter whose line goes through two marks, or its error.
func referenceCalibrated(a probe.Adc, first, second probe.Mark) (probe.Adc, api.Errno) {
	x, y := voltage(a, first.Code, 0), valid(first.Volts)
	run, rise := new(big.Rat).Sub(voltage(a, second.Code, 0), x), new(big.Rat).Sub(valid(second.Volts), y)
	gain := new(big.Rat).Quo(rise, run)
	if gain.Sign() <= 0 {
		return probe.Adc{}, api.ErrRange
	}
	offset := new(big.Rat).Sub(y, new(big.Rat).Mul(gain, x))
	var errGain, errOffset api.Errno
	a.Gain, errGain = rat(gain)
	a.Offset, errOffset = rat(offset)
	if errGain != api.OK || errOffset != api.OK {
		return probe.Adc{}, api.ErrLarge
	}
	return a, api.OK
}

// P2.2: calibrations by two marks.
func TestCalibrated(t *testing.T) {
	r := source(4)
	for _, a := range adcs() {
		for range 20 {
			first, second := probe.Mark{Code: r.Intn(top(a) + 1)}, probe.Mark{Code: r.Intn(top(a) + 1)}
			if first.Code == second.Code {
				continue
			}
			first.Volts = api.Rat(big.NewRat(r.Int63n(2000)-1000, 1+r.Int63n(30)).RatString())
			second.Volts = api.Rat(big.NewRat(r.Int63n(2000)-1000, 1+r.Int63n(30)).RatString())
			wanted, wantedError := referenceCalibrated(a, first, second)
			got, e := probe.Calibrated(a, first, second)
			same(t, "Calibrated", got, e, wanted, wantedError)
			got, e = probe.Calibrated(a, second, first)
			same(t, "Calibrated", got, e, wanted, wantedError)
		}
	}
}

// P2.2: the errors of marks, in their order.
func TestCalibratedErrors(t *testing.T) {
	large := nines(601)
	for _, row := range []struct {
		first, second probe.Mark
		e             api.Errno
	}{
		{probe.Mark{Code: -1, Volts: large}, probe.Mark{Code: 1, Volts: "x"}, api.ErrRange}, {probe.Mark{Code: 256, Volts: "x"}, probe.Mark{Code: 256, Volts: "x"}, api.ErrRange}, {probe.Mark{Code: math.MinInt, Volts: "1"}, probe.Mark{Code: 1, Volts: "2"}, api.ErrRange},
		{probe.Mark{Code: 1, Volts: large}, probe.Mark{Code: -1, Volts: "x"}, api.ErrLarge}, {probe.Mark{Code: 1, Volts: "x"}, probe.Mark{Code: -1, Volts: large}, api.ErrForm}, {probe.Mark{Code: 1}, probe.Mark{Code: 1}, api.ErrForm},
		{probe.Mark{Code: 1, Volts: "1"}, probe.Mark{Code: -1, Volts: "x"}, api.ErrRange}, {probe.Mark{Code: 1, Volts: "1"}, probe.Mark{Code: math.MaxInt, Volts: large}, api.ErrRange}, {probe.Mark{Code: 1, Volts: "1"}, probe.Mark{Code: 1, Volts: "x"}, api.ErrForm}, {probe.Mark{Code: 1, Volts: "1"}, probe.Mark{Code: 1, Volts: large}, api.ErrLarge},
		{probe.Mark{Code: 1, Volts: "1"}, probe.Mark{Code: 1, Volts: "1"}, api.ErrTwice}, {probe.Mark{Code: 0, Volts: "1"}, probe.Mark{Code: 0, Volts: "2"}, api.ErrTwice},
		{probe.Mark{Code: 1, Volts: "1"}, probe.Mark{Code: 2, Volts: "1"}, api.ErrRange}, {probe.Mark{Code: 1, Volts: "1"}, probe.Mark{Code: 2, Volts: "1/2"}, api.ErrRange}, {probe.Mark{Code: 2, Volts: "1"}, probe.Mark{Code: 1, Volts: "2"}, api.ErrRange}, {probe.Mark{Code: 0, Volts: nines(600)}, probe.Mark{Code: 255, Volts: "-" + nines(600)}, api.ErrRange},
		{probe.Mark{Code: 0, Volts: "1/" + nines(600)}, probe.Mark{Code: 255, Volts: nines(600)}, api.ErrLarge},
	} {
		got, e := probe.Calibrated(exampleAdc, row.first, row.second)
		same(t, "Calibrated", got, e, probe.Adc{}, row.e)
	}
	for _, bad := range badNumbers() {
		got, e := probe.Calibrated(exampleAdc, probe.Mark{Code: 1, Volts: bad.a}, probe.Mark{Code: 2, Volts: "1"})
		same(t, "Calibrated", got, e, probe.Adc{}, bad.e)
		got, e = probe.Calibrated(exampleAdc, probe.Mark{Code: 1, Volts: "1"}, probe.Mark{Code: 2, Volts: bad.a})
		same(t, "Calibrated", got, e, probe.Adc{}, bad.e)
	}
}

// P2.2: the difference of the voltages, or the voltage at 0, has too many digits on the way only.
func TestCalibratedOnTheWay(t *testing.T) {
	a := probe.Adc{Bits: 8, Step: 0, Zero: 128, Gain: "1", Offset: "0"}
	wanted := a
	wanted.Gain = nines(600)
	got, e := probe.Calibrated(a, probe.Mark{Code: 127, Volts: "-" + nines(600)}, probe.Mark{Code: 129, Volts: nines(600)})
	same(t, "Calibrated", got, e, wanted, api.OK)
	sizes := map[api.Errno]int{}
	for _, first := range []api.Rat{"0", "-" + nines(600), "-" + nines(599), "1/" + nines(599), "1/3"} {
		for _, second := range []api.Rat{nines(600), nines(599), "1" + api.Rat(make0(599)), "8/7", "1/" + nines(600)} {
			for _, codes := range [][2]int{{0, 255}, {1, 33}, {127, 129}, {128, 130}, {130, 128}, {120, 128}, {100, 101}} {
				marks := [2]probe.Mark{{Code: codes[0], Volts: first}, {Code: codes[1], Volts: second}}
				wanted, wantedError := referenceCalibrated(a, marks[0], marks[1])
				got, e := probe.Calibrated(a, marks[0], marks[1])
				same(t, "Calibrated", got, e, wanted, wantedError)
				sizes[e]++
			}
		}
	}
	if sizes[api.OK] == 0 || sizes[api.ErrLarge] == 0 || sizes[api.ErrRange] == 0 {
		t.Errorf("the sizes decide nothing: %v", sizes)
	}
}
