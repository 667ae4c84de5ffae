package probe_test

import (
	"math"
	"math/big"
	"testing"

	"strobe/api"
	"strobe/probe"
)

// referenceCode returns the code of a voltage and the end at which it is clipped, by the definition.
func referenceCode(a probe.Adc, volts *big.Rat) (int, int) {
	x := new(big.Rat).Quo(volts, power(a.Step))
	x.Add(x, big.NewRat(int64(2*a.Zero+1), 2))
	code := new(big.Int).Div(x.Num(), x.Denom())
	switch {
	case code.Sign() < 0:
		return 0, -1
	case code.Cmp(big.NewInt(int64(top(a)))) > 0:
		return top(a), 1
	}
	return int(code.Int64()), 0
}

// sameCode compares a code with that of the definition.
func sameCode(t *testing.T, a probe.Adc, volts *big.Rat) {
	t.Helper()
	text, e := rat(volts)
	if e != api.OK {
		t.Fatalf("no number: %s", volts)
	}
	code, end, e := probe.Code(a, text)
	wanted, wantedEnd := referenceCode(a, volts)
	same(t, "Code "+string(text), [2]int{code, end}, e, [2]int{wanted, wantedEnd}, api.OK)
}

// P2.1: the errors of converters, and their order.
func TestCheckAdc(t *testing.T) {
	for _, a := range adcs() {
		same(t, "CheckAdc", 0, probe.CheckAdc(a), 0, api.OK)
	}
	large := probe.Adc{Bits: 12, Step: 4, Zero: 4095, Gain: nines(600), Offset: "-" + nines(600) + "/" + "1" + api.Rat(make0(599))}
	same(t, "CheckAdc", 0, probe.CheckAdc(large), 0, api.OK)
	for _, bad := range badAdcs() {
		same(t, "CheckAdc", bad.a, probe.CheckAdc(bad.a), bad.a, bad.e)
	}
}

// make0 returns n digits 0.
func make0(n int) string {
	l := make([]byte, n)
	for i := range l {
		l[i] = '0'
	}
	return string(l)
}

// P2.1: the limits of converters.
func TestLimitsOfConverters(t *testing.T) {
	limits := [5]int{probe.MinBits, probe.MaxBits, probe.MinStep, probe.MaxStep, probe.MaxSkew}
	same(t, "the limits", limits, api.OK, [5]int{8, 12, -20, 4, 1000}, api.OK)
	for _, a := range []probe.Adc{{Bits: 8, Step: -20, Zero: 255}, {Bits: 12, Step: 4, Zero: 4095}} {
		a.Gain, a.Offset = "1/3", "-2"
		same(t, "CheckAdc", a, probe.CheckAdc(a), a, api.OK)
	}
}

// P2.1: the error of the converter comes first, with zero values beside it.
func TestErrorsOfConverters(t *testing.T) {
	for _, bad := range badAdcs() {
		full, e := probe.Full(bad.a)
		same(t, "Full", full, e, api.Span{}, bad.e)
		code, end, e := probe.Code(bad.a, "x")
		same(t, "Code", [2]int{code, end}, e, [2]int{}, bad.e)
		volts, e := probe.Volts(bad.a, -1)
		same(t, "Volts", volts, e, 0, bad.e)
		for _, code := range []int{-1, 0, 255, 100000} {
			interval, e := probe.Interval(bad.a, code)
			same(t, "Interval", interval, e, api.Span{}, bad.e)
			true1, e := probe.True(bad.a, code)
			same(t, "True", true1, e, api.Span{}, bad.e)
		}
		samples, e := probe.Sampled(bad.a, []api.Rat{"x"})
		sameRecord(t, "Sampled", samples, e, nil, bad.e)
		codes, e := probe.Codes(bad.a, notFinite())
		sameList(t, "Codes", codes, e, nil, bad.e)
		ranges, e := probe.Clipped(bad.a, notFinite())
		sameList(t, "Clipped", ranges, e, nil, bad.e)
		other, e := probe.Calibrated(bad.a, probe.Mark{Code: -1}, probe.Mark{Code: -1})
		same(t, "Calibrated", other, e, probe.Adc{}, bad.e)
	}
}

// P2.1: the examples of the chapter.
func TestExamplesOfCodes(t *testing.T) {
	full, e := probe.Full(exampleAdc)
	same(t, "Full", full, e, span("-16", "127/8"), api.OK)
	for _, row := range []struct {
		volts     api.Rat
		code, end int
	}{
		{"1/16", 129, 0}, {"-1/16", 128, 0}, {"100", 255, 1}, {"-257/16", 0, 0}, {"-17", 0, -1}, {"0", 128, 0}, {"1/10", 129, 0}, {"-20", 0, -1}, {"20", 255, 1},
		// The greatest code reaches half a step above its nominal voltage.
		{"127/8", 255, 0}, {"254999999/16000000", 255, 0}, {"255/16", 255, 1}, {"-257000001/16000000", 0, -1}, {"-255/16", 1, 0}, {"-255000001/16000000", 0, 0},
	} {
		code, end, e := probe.Code(exampleAdc, row.volts)
		same(t, "Code "+string(row.volts), [2]int{code, end}, e, [2]int{row.code, row.end}, api.OK)
	}
	volts, e := probe.Volts(exampleAdc, 130)
	same(t, "Volts", volts, e, 0.25, api.OK)
	interval, e := probe.Interval(exampleAdc, 129)
	same(t, "Interval", interval, e, span("1/16", "3/16"), api.OK)
	interval, e = probe.True(exampleAdc, 129)
	same(t, "True", interval, e, span("1/16", "3/16"), api.OK)
	a := exampleAdc
	a.Gain, a.Offset = "2", "1"
	interval, e = probe.True(a, 129)
	same(t, "True", interval, e, span("9/8", "11/8"), api.OK)
	interval, e = probe.Interval(a, 129)
	same(t, "Interval", interval, e, span("1/16", "3/16"), api.OK)
}

// P2.1: the full range.
func TestFull(t *testing.T) {
	for _, a := range adcs() {
		low, _ := rat(voltage(a, 0, 0))
		high, _ := rat(voltage(a, top(a), 0))
		full, e := probe.Full(a)
		same(t, "Full", full, e, span(low, high), api.OK)
	}
}

// P2.1: the codes of voltages at the edges, next to them, and anywhere.
func TestCode(t *testing.T) {
	r := source(1)
	little := new(big.Rat).SetFrac(big.NewInt(1), new(big.Int).Exp(big.NewInt(10), big.NewInt(500), nil))
	for _, a := range adcs() {
		codes := []int{-2, -1, 0, 1, a.Zero - 1, a.Zero, a.Zero + 1, top(a) - 1, top(a), top(a) + 1, top(a) + 2}
		for range 5 {
			codes = append(codes, r.Intn(top(a)+1))
		}
		for _, code := range codes {
			for quarters := -2; quarters <= 2; quarters++ {
				v := voltage(a, code, quarters)
				sameCode(t, a, v)
				sameCode(t, a, new(big.Rat).Add(v, little))
				sameCode(t, a, new(big.Rat).Sub(v, little))
			}
		}
	}
}

// P2.1: voltages of the greatest size, and the least ones.
func TestCodeOfLargeVoltages(t *testing.T) {
	for _, a := range adcs() {
		for _, volts := range []api.Rat{nines(600), "-" + nines(600), "1/" + nines(600), "-1/" + nines(600), nines(600) + "/" + "1" + api.Rat(make0(599)), "-" + nines(600) + "/" + "1" + api.Rat(make0(599)), "340282366920938463463374607431768211456", "-340282366920938463463374607431768211456", "340282346638528859811704183484516925440"} {
			sameCode(t, a, valid(volts))
		}
	}
}

// P2.1: the errors of voltages.
func TestCodeErrors(t *testing.T) {
	for _, bad := range badNumbers() {
		code, end, e := probe.Code(exampleAdc, bad.a)
		same(t, "Code", [2]int{code, end}, e, [2]int{}, bad.e)
	}
}

// P2.1: the nominal voltages and the intervals of all codes.
func TestVoltsAndIntervals(t *testing.T) {
	for _, a := range adcs() {
		for code := 0; code <= top(a); code += 1 + code/64 {
			nominal, _ := voltage(a, code, 0).Float32()
			volts, e := probe.Volts(a, code)
			same(t, "Volts", math.Float32bits(volts), e, math.Float32bits(nominal), api.OK)
			checkInterval(t, a, code)
		}
		checkInterval(t, a, top(a)-1)
		checkInterval(t, a, top(a))
		for _, code := range []int{-1, top(a) + 1, math.MinInt, math.MaxInt} {
			volts, e := probe.Volts(a, code)
			same(t, "Volts", volts, e, 0, api.ErrRange)
			interval, e := probe.Interval(a, code)
			same(t, "Interval", interval, e, api.Span{}, api.ErrRange)
			interval, e = probe.True(a, code)
			same(t, "True", interval, e, api.Span{}, api.ErrRange)
		}
	}
}

// trueVoltage returns gain times a nominal voltage plus the offset.
func trueVoltage(a probe.Adc, nominal *big.Rat) *big.Rat {
	x := new(big.Rat).Mul(valid(a.Gain), nominal)
	return x.Add(x, valid(a.Offset))
}

// checkInterval compares the nominal interval and the true one of a code with the definition.
func checkInterval(t *testing.T, a probe.Adc, code int) {
	t.Helper()
	wanted, wantedTrue, wantedError, wantedTrueError := api.Span{}, api.Span{}, api.ErrClip, api.ErrClip
	if code != 0 && code != top(a) {
		low, high := voltage(a, code, -2), voltage(a, code, 2)
		wanted.Low, _ = rat(low)
		wanted.High, wantedError = rat(high)
		trueLow, errLow := rat(trueVoltage(a, low))
		trueHigh, errHigh := rat(trueVoltage(a, high))
		wantedTrue, wantedTrueError = span(trueLow, trueHigh), max(errLow, errHigh)
		if wantedTrueError != api.OK {
			wantedTrue = api.Span{}
		}
	}
	interval, e := probe.Interval(a, code)
	same(t, "Interval", interval, e, wanted, wantedError)
	interval, e = probe.True(a, code)
	same(t, "True", interval, e, wantedTrue, wantedTrueError)
}

// P2.1: true voltages that have too many digits, at one end or at both.
func TestTrueSizes(t *testing.T) {
	sizes := map[api.Errno]int{}
	for _, gain := range []api.Rat{"1", "2", nines(600), "1/" + nines(600), "1" + api.Rat(make0(599)), "1/1" + api.Rat(make0(599)), "16/" + nines(600), nines(598) + "/7"} {
		for _, offset := range []api.Rat{"0", "1", "-1", nines(600), "-" + nines(600), "1/" + nines(600), "-1" + api.Rat(make0(599)) + "/3"} {
			for _, a := range []probe.Adc{{Bits: 8, Step: -3, Zero: 128}, {Bits: 8, Step: 1, Zero: 128}, {Bits: 12, Step: -20, Zero: 0}, {Bits: 9, Step: 4, Zero: 511}} {
				a.Gain, a.Offset = gain, offset
				for _, code := range []int{1, 100, 127, 128, 129, 254} {
					checkInterval(t, a, code)
					_, e := probe.True(a, code)
					sizes[e]++
				}
			}
		}
	}
	if sizes[api.OK] == 0 || sizes[api.ErrLarge] == 0 {
		t.Errorf("the sizes decide nothing: %v", sizes)
	}
}

// P2.1: gain times the voltage has too many digits, but plus the offset it has not.
func TestTrueOnTheWay(t *testing.T) {
	a := exampleAdc
	// The gain has the denominator 5^599 2^599; the offset cancels all factors 2 of the product's denominator at the lower end.
	five, two := new(big.Int).Exp(big.NewInt(5), big.NewInt(599), nil), new(big.Int).Lsh(big.NewInt(1), 603)
	top := new(big.Int).ModInverse(five, two)
	top.Mul(top, big.NewInt(-3)).Mod(top, two)
	a.Gain, a.Offset = "1/1"+api.Rat(make0(599)), api.Rat(new(big.Rat).SetFrac(top, two).RatString())
	product := new(big.Rat).Mul(valid(a.Gain), big.NewRat(3, 16))
	if _, e := rat(product); e != api.ErrLarge {
		t.Fatalf("the product has only few digits")
	}
	interval, e := probe.True(a, 130)
	if e != api.OK || interval.Low == "" || interval.High == "" {
		t.Errorf("True: got %v, %d", interval, e)
	}
	checkInterval(t, a, 130)
}
