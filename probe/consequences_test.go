package probe_test

import (
	"math/big"
	"testing"

	"strobe/api"
	"strobe/number"
	"strobe/probe"
)

// P2.6: the code of the nominal voltage of a code is this code.
func TestCodesOfNominalVoltages(t *testing.T) {
	for _, a := range adcs() {
		for code := range top(a) + 1 {
			volts, e := probe.Volts(a, code)
			exact, e2 := number.Exact(volts)
			got, end, e3 := probe.Code(a, exact)
			same(t, "Code "+string(exact), [2]int{got, end}, max(e, e2, e3), [2]int{code, 0}, api.OK)
		}
	}
}

// P2.6: codes never fall when voltages rise, and a voltage lies in the interval of its code.
func TestCodesRise(t *testing.T) {
	r := source(8)
	for _, a := range adcs() {
		rise := new(big.Rat).Mul(big.NewRat(1+r.Int63n(1000), 700), power(a.Step))
		volts, last, lastEnd := voltage(a, a.Zero-20, 1), 0, -1
		if a.Zero-20 < 0 {
			volts = voltage(a, -5, 1)
		}
		for range 60 {
			text, _ := rat(volts)
			code, end, e := probe.Code(a, text)
			if e != api.OK || code < last || end < lastEnd {
				t.Errorf("Code %s: got %d, %d, %d after %d, %d", text, code, end, e, last, lastEnd)
			}
			checkMember(t, a, text, code, end)
			last, lastEnd = code, end
			volts = new(big.Rat).Add(volts, rise)
		}
	}
}

// checkMember reports a voltage that is not clipped, and does not lie in the interval of its code.
func checkMember(t *testing.T, a probe.Adc, volts api.Rat, code, end int) {
	t.Helper()
	interval, e := probe.Interval(a, code)
	if end != 0 || e != api.OK {
		return
	}
	low, _ := number.Order(interval.Low, volts)
	high, _ := number.Order(volts, interval.High)
	if low > 0 || high >= 0 {
		t.Errorf("%s has the code %d, but is not in %v", volts, code, interval)
	}
}

// P2.6: samples of the true voltages of a calibrated converter: both marks are met.
func TestMarksAreMet(t *testing.T) {
	r := source(9)
	for _, a := range adcs() {
		marks := [2]probe.Mark{{Code: r.Intn(top(a) / 2), Volts: integer(r.Intn(50) - 50)}, {Code: top(a)/2 + r.Intn(top(a)/2), Volts: integer(1 + r.Intn(50))}}
		b, e := probe.Calibrated(a, marks[0], marks[1])
		same(t, "CheckAdc", 0, max(e, probe.CheckAdc(b)), 0, api.OK)
		for _, m := range marks {
			met, e := rat(trueVoltage(b, voltage(b, m.Code, 0)))
			same(t, "the voltage of a mark", met, e, m.Volts, api.OK)
		}
		b.Gain, b.Offset = a.Gain, a.Offset
		same(t, "the other fields", b, api.OK, a, api.OK)
	}
}

// P2.6: a digital line changes upwards only at samples that are at least High, downwards only at samples that are at most Low.
func TestLinesChangeAtThresholds(t *testing.T) {
	r := source(10)
	for range 200 {
		l := probe.Levels{Low: float32(r.NormFloat64()) - 1}
		l.High = l.Low + 0.5
		samples := make([]float32, 100)
		for i := range samples {
			samples[i] = float32(r.NormFloat64())
		}
		value := r.Intn(2) == 0
		line, e := probe.Digital(samples, l, value)
		if e != api.OK || len(line) != len(samples) {
			t.Fatalf("Digital: got %v, %d", line, e)
		}
		for i, f := range samples {
			if line[i] && !value && f < l.High || !line[i] && value && f > l.Low {
				t.Errorf("Digital %v: the line becomes %v at %g", l, line[i], f)
			}
			value = line[i]
		}
	}
}

// P2.6: lines, words, blocks and changes lead back to what they were made from.
func TestWaysBack(t *testing.T) {
	r := source(11)
	for range 100 {
		n, before := r.Intn(200), r.Intn(2) == 0
		lines := make([][]bool, 1+r.Intn(16))
		for i := range lines {
			lines[i] = make([]bool, n)
			for j := range lines[i] {
				lines[i][j] = r.Intn(3) == 0
			}
		}
		words, e := probe.Words(lines)
		blocks, e2 := probe.Blocks(words)
		again, e3 := probe.Unpack(blocks, n)
		sameList(t, "Unpack", again, max(e, e2, e3), words, api.OK)
		for i := range lines {
			line, e := probe.Line(again, i)
			sameList(t, "Line", line, e, lines[i], api.OK)
			times, e := probe.Changes(line, before)
			same(t, "Changes", 0, e, 0, api.OK)
			line, e = probe.FromChanges(times, before, n)
			sameList(t, "FromChanges", line, e, lines[i], api.OK)
		}
		for _, block := range blocks {
			whole, e := probe.Block(block[:])
			same(t, "Block", whole, e, block, api.OK)
		}
	}
}

// P2.6: aligned records of one signal that was sampled with different skews are equal.
func TestAlignedRecordsOfOneSignal(t *testing.T) {
	r := source(12)
	signal := func(time int) float32 { return float32(time * time % 97) }
	for range 200 {
		records, skews := make([][]float32, 2+r.Intn(7)), []int{}
		for i := range records {
			skews = append(skews, r.Intn(61)-30)
			records[i] = make([]float32, 100+r.Intn(30))
			for k := range records[i] {
				records[i][k] = signal(k - skews[i])
			}
		}
		aligned, e := probe.Aligned(records, skews)
		if e != api.OK || len(aligned) != len(records) || len(aligned[0]) == 0 {
			t.Fatalf("Aligned: got %v, %d", aligned, e)
		}
		for i := range aligned {
			sameRecord(t, "Aligned", aligned[i], e, aligned[0], api.OK)
		}
	}
}

// Results depend on the arguments only, and share no memory with each other.
func TestResultsAreNew(t *testing.T) {
	samples := []float32{-16, 0, 15.875}
	codes, _ := probe.Codes(exampleAdc, samples)
	clear(codes)
	codes, e := probe.Codes(exampleAdc, samples)
	sameList(t, "Codes", codes, e, []int{0, 128, 255}, api.OK)
	words := []uint16{1, 2, 3}
	blocks, _ := probe.Blocks(words)
	words[0] = 7
	same(t, "Blocks", blocks[0][0], api.OK, 1, api.OK)
	again, _ := probe.Unpack(blocks, 3)
	again = append(again, 5)
	again[1] = 9
	same(t, "Unpack", blocks[0], api.OK, [probe.BlockLen]uint16{1, 2, 3}, api.OK)
}
