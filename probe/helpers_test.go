package probe_test

import (
	"math"
	"math/big"
	"math/rand"
	"slices"
	"strconv"
	"strings"
	"testing"

	"strobe/api"
	"strobe/number"
	"strobe/probe"
)

// exampleAdc is the converter A of the chapter's examples.
var exampleAdc = probe.Adc{Bits: 8, Step: -3, Zero: 128, Gain: "1", Offset: "0"}

// nines returns a number of n digits 9.
func nines(n int) api.Rat { return api.Rat(strings.Repeat("9", n)) }

// span returns a span.
func span(low, high api.Rat) api.Span { return api.Span{Low: low, High: high} }

// source returns a sequence of random numbers that is the same on each run.
func source(seed int64) *rand.Rand { return rand.New(rand.NewSource(seed)) }

// integer returns the number of an int.
func integer(n int) api.Rat { return api.Rat(strconv.Itoa(n)) }

// valid returns a valid number as a value of math/big.
func valid(a api.Rat) *big.Rat {
	x, ok := new(big.Rat).SetString(string(a))
	if !ok {
		panic("no number: " + string(a))
	}
	return x
}

// rat returns the number of a value, or ErrLarge.
func rat(x *big.Rat) (api.Rat, api.Errno) {
	a := api.Rat(x.RatString())
	if e := number.Check(a); e != api.OK {
		return "", e
	}
	return a, api.OK
}

// power returns 2 to the power of n.
func power(n int) *big.Rat {
	p := new(big.Int).Lsh(big.NewInt(1), uint(max(n, -n)))
	if n < 0 {
		return new(big.Rat).SetFrac(big.NewInt(1), p)
	}
	return new(big.Rat).SetInt(p)
}

// top returns the last code of a converter.
func top(a probe.Adc) int { return int(math.Pow(2, float64(a.Bits))) - 1 }

// voltage returns the nominal voltage of a code plus a number of quarters of a step.
func voltage(a probe.Adc, code, quarters int) *big.Rat {
	steps := big.NewRat(int64(4*(code-a.Zero)+quarters), 4)
	return steps.Mul(steps, power(a.Step))
}

// adcs returns valid converters of all bits, with steps and zeros at their limits and between.
func adcs() []probe.Adc {
	var l []probe.Adc
	for bits := probe.MinBits; bits <= probe.MaxBits; bits++ {
		last := 1<<bits - 1
		for _, step := range []int{probe.MinStep, -3, 0, probe.MaxStep} {
			for _, zero := range []int{0, 1, last / 3, last} {
				l = append(l, probe.Adc{Bits: bits, Step: step, Zero: zero, Gain: "3/2", Offset: "-1/7"})
			}
		}
	}
	return append(l, exampleAdc)
}

// badAdc is a converter and its error.
type badAdc struct {
	a probe.Adc
	e api.Errno
}

// changed returns the converter of the examples with a change, and its error.
func changed(e api.Errno, change func(*probe.Adc)) badAdc {
	a := exampleAdc
	change(&a)
	return badAdc{a, e}
}

// badAdcs returns converters with errors.
func badAdcs() []badAdc {
	l := []badAdc{{probe.Adc{}, api.ErrRange}}
	for _, n := range []int{math.MinInt, -1, 0, 7, 13, 64, math.MaxInt} {
		l = append(l, changed(api.ErrRange, func(a *probe.Adc) { a.Bits, a.Zero = n, 0 }))
	}
	for _, n := range []int{math.MinInt, -21, 5, math.MaxInt} {
		l = append(l, changed(api.ErrRange, func(a *probe.Adc) { a.Step = n }))
	}
	for _, n := range []int{math.MinInt, -1, 256, math.MaxInt} {
		l = append(l, changed(api.ErrRange, func(a *probe.Adc) { a.Zero = n }))
	}
	for _, n := range []api.Rat{"0", "-1", "-1/2", "-" + nines(600)} {
		l = append(l, changed(api.ErrRange, func(a *probe.Adc) { a.Gain = n }))
	}
	for _, bad := range badNumbers() {
		l = append(l, changed(bad.e, func(a *probe.Adc) { a.Gain = bad.a }), changed(bad.e, func(a *probe.Adc) { a.Offset = bad.a }))
	}
	// The order of the errors.
	return append(l,
		changed(api.ErrRange, func(a *probe.Adc) { a.Bits, a.Gain, a.Offset = 7, "x", nines(601) }),
		changed(api.ErrRange, func(a *probe.Adc) { a.Step, a.Gain, a.Offset = 5, nines(601), "x" }),
		changed(api.ErrRange, func(a *probe.Adc) { a.Zero, a.Gain, a.Offset = 256, nines(601), "x" }),
		changed(api.ErrLarge, func(a *probe.Adc) { a.Gain, a.Offset = nines(601), "x" }),
		changed(api.ErrForm, func(a *probe.Adc) { a.Gain, a.Offset = "x", nines(601) }),
		changed(api.ErrRange, func(a *probe.Adc) { a.Gain, a.Offset = "0", "x" }),
		changed(api.ErrRange, func(a *probe.Adc) { a.Gain, a.Offset = "-2", nines(601) }),
		changed(api.ErrForm, func(a *probe.Adc) { a.Gain = "-0" }),
	)
}

// badNumber is a number and its error.
type badNumber struct {
	a api.Rat
	e api.Errno
}

// badNumbers returns strings that are no numbers.
func badNumbers() []badNumber {
	var l []badNumber
	for _, a := range []api.Rat{"", "-", "x", "-0", "01", "1/0", "1/1", "2/4", "0/5", "+1", " 1", "1.5", "1/-2", "1/2/3", "\xff", "1\x00", nines(600) + "/" + nines(600)} {
		l = append(l, badNumber{a, api.ErrForm})
	}
	for _, a := range []api.Rat{nines(601), "-" + nines(601), "1/" + nines(601)} {
		l = append(l, badNumber{a, api.ErrLarge})
	}
	return l
}

// notFinite returns NaNs and infinities.
func notFinite() []float32 {
	return []float32{float32(math.NaN()), float32(math.Inf(1)), float32(math.Inf(-1)), math.Float32frombits(0xffc00001)}
}

// negativeZero returns -0.
func negativeZero() float32 { return float32(math.Copysign(0, -1)) }

// same reports a result or an error that differs from the expected one.
func same[T comparable](t *testing.T, what string, got T, gotError api.Errno, wanted T, wantedError api.Errno) {
	t.Helper()
	if got != wanted || gotError != wantedError {
		t.Errorf("%s: got %v, %d, want %v, %d", what, got, gotError, wanted, wantedError)
	}
}

// sameList reports a list or an error that differs from the expected one; nil and empty lists are equal.
func sameList[T comparable](t *testing.T, what string, got []T, gotError api.Errno, wanted []T, wantedError api.Errno) {
	t.Helper()
	if !slices.Equal(got, wanted) || gotError != wantedError {
		t.Errorf("%s: got %v, %d, want %v, %d", what, got, gotError, wanted, wantedError)
	}
}

// sameRecord is sameList for samples, and tells -0 from 0, as no result is -0.
func sameRecord(t *testing.T, what string, got []float32, gotError api.Errno, wanted []float32, wantedError api.Errno) {
	t.Helper()
	sameList(t, what, bitsOf(got), gotError, bitsOf(wanted), wantedError)
}

// bitsOf returns the bits of samples.
func bitsOf(samples []float32) []uint32 {
	l := make([]uint32, len(samples))
	for i, f := range samples {
		l[i] = math.Float32bits(f)
	}
	return l
}

// unchanged returns a function that reports a change of a list since this call.
func unchanged[T comparable](t *testing.T, what string, list []T) func() {
	before := slices.Clone(list)
	return func() {
		t.Helper()
		if !slices.Equal(list, before) {
			t.Errorf("%s has changed its argument", what)
		}
	}
}
