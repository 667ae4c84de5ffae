package acquire_test

import (
	"math"
	"math/big"
	"math/rand"
	"reflect"
	"slices"
	"strings"
	"testing"

	"strobe/acquire"
	"strobe/api"
)

// exampleSetup is the set-up S of the chapter's examples.
var exampleSetup = acquire.Setup{Pre: 2, Post: 3, Holdoff: 4, Segments: 2}

// exampleStream returns the samples and the triggers of the chapter's examples.
func exampleStream() ([]float32, []bool) {
	return counted(0, 14), flagsAt(14, 1, 3, 5, 9, 10)
}

// exampleSegments returns the segments of the chapter's examples.
func exampleSegments() []acquire.Segment {
	return []acquire.Segment{
		{Start: 1, Trigger: 3, Samples: counted(1, 5), Lost: 1, Missed: 1},
		{Start: 8, Trigger: 10, Samples: counted(8, 5), Lost: 2, Missed: 2},
	}
}

// counted returns the samples from, from + 1, .. of n times.
func counted(from, n int) []float32 {
	samples := make([]float32, n)
	for i := range samples {
		samples[i] = float32(from + i)
	}
	return samples
}

// flagsAt returns n flags, of which those at some times are true.
func flagsAt(n int, times ...int) []bool {
	flags := make([]bool, n)
	for _, t := range times {
		flags[t] = true
	}
	return flags
}

// nines returns a number of n digits 9.
func nines(n int) api.Rat { return api.Rat(strings.Repeat("9", n)) }

// zeros returns n digits 0.
func zeros(n int) api.Rat { return api.Rat(strings.Repeat("0", n)) }

// source returns a sequence of random numbers that is the same on each run.
func source(seed int64) *rand.Rand { return rand.New(rand.NewSource(seed)) }

// valid returns a valid number as a value of math/big.
func valid(a api.Rat) *big.Rat {
	x, ok := new(big.Rat).SetString(string(a))
	if !ok {
		panic("no number: " + string(a))
	}
	return x
}

// exact returns the exact value of a sample.
func exact(f float32) *big.Rat { return new(big.Rat).SetFloat64(float64(f)) }

// notFinite returns NaNs and infinities.
func notFinite() []float32 {
	return []float32{float32(math.NaN()), float32(math.Inf(1)), float32(math.Inf(-1)), math.Float32frombits(0xffc00001)}
}

// negativeZero returns -0.
func negativeZero() float32 { return float32(math.Copysign(0, -1)) }

// anyFloat returns a float of any size that is finite.
func anyFloat(r *rand.Rand) float32 {
	for {
		f := math.Float32frombits(r.Uint32())
		if d := f - f; d == 0 {
			return f
		}
	}
}

// badNumber is a string that is no number, and its error.
type badNumber struct {
	a api.Rat
	e api.Errno
}

// badNumbers returns strings that are no numbers.
func badNumbers() []badNumber {
	var l []badNumber
	for _, a := range []api.Rat{"", "-", "x", "-0", "01", "1/0", "1/1", "2/4", "0/5", "+1", " 1", "1.5", "1/-2", "1/2/3", "\xff", "1\x00", nines(600) + "/" + nines(600)} {
		l = append(l, badNumber{a, api.ErrForm})
	}
	for _, a := range []api.Rat{nines(601), "-" + nines(601), "1/" + nines(601)} {
		l = append(l, badNumber{a, api.ErrLarge})
	}
	return l
}

// badSetups returns set-ups with one field that is out of its range.
func badSetups() []acquire.Setup {
	l := []acquire.Setup{{}, {Pre: -1, Post: -1, Holdoff: -1, Segments: -1}}
	for _, n := range []int{math.MinInt, -1, 1025, math.MaxInt} {
		l = append(l, acquire.Setup{Pre: n, Post: 3, Holdoff: 4, Segments: 2})
	}
	for _, n := range []int{math.MinInt, -1, 0, 1025, math.MaxInt} {
		l = append(l, acquire.Setup{Pre: 2, Post: n, Holdoff: 4, Segments: 2})
	}
	for _, n := range []int{math.MinInt, -1, 4097, math.MaxInt} {
		l = append(l, acquire.Setup{Pre: 2, Post: 3, Holdoff: n, Segments: 2})
	}
	for _, n := range []int{math.MinInt, -1, 0, 65, math.MaxInt} {
		l = append(l, acquire.Setup{Pre: 2, Post: 3, Holdoff: 4, Segments: n})
	}
	return l
}

// goodSetups returns set-ups whose fields are at their limits or between.
func goodSetups() []acquire.Setup {
	var l []acquire.Setup
	for _, pre := range []int{0, 1, 500, 1024} {
		for _, post := range []int{1, 2, 500, 1024} {
			for _, holdoff := range []int{0, 1, 1024, 4096} {
				for _, segments := range []int{1, 2, 64} {
					l = append(l, acquire.Setup{Pre: pre, Post: post, Holdoff: holdoff, Segments: segments})
				}
			}
		}
	}
	return l
}

// same reports a result or an error that differs from the expected one.
func same[T comparable](t *testing.T, what string, got T, gotError api.Errno, wanted T, wantedError api.Errno) {
	t.Helper()
	if got != wanted || gotError != wantedError {
		t.Errorf("%s: got %v, %d, want %v, %d", what, got, gotError, wanted, wantedError)
	}
}

// sameList reports a list or an error that differs from the expected one; nil and empty lists are equal.
func sameList[T comparable](t *testing.T, what string, got []T, gotError api.Errno, wanted []T, wantedError api.Errno) {
	t.Helper()
	if !slices.Equal(got, wanted) || gotError != wantedError {
		t.Errorf("%s: got %v, %d, want %v, %d", what, got, gotError, wanted, wantedError)
	}
}

// sameRecord is sameList for samples, and tells -0 from 0, as no result is -0.
func sameRecord(t *testing.T, what string, got []float32, gotError api.Errno, wanted []float32, wantedError api.Errno) {
	t.Helper()
	sameList(t, what, bitsOf(got), gotError, bitsOf(wanted), wantedError)
}

// bitsOf returns the bits of samples.
func bitsOf(samples []float32) []uint32 {
	l := make([]uint32, len(samples))
	for i, f := range samples {
		l[i] = math.Float32bits(f)
	}
	return l
}

// sameSegments reports segments or an error that differ from the expected ones, and tells -0 from 0.
func sameSegments(t *testing.T, what string, got []acquire.Segment, gotError api.Errno, wanted []acquire.Segment, wantedError api.Errno) {
	t.Helper()
	isEqual := slices.EqualFunc(got, wanted, func(a, b acquire.Segment) bool {
		equalSamples := slices.Equal(bitsOf(a.Samples), bitsOf(b.Samples))
		a.Samples, b.Samples = nil, nil
		return equalSamples && reflect.DeepEqual(a, b)
	})
	if !isEqual || gotError != wantedError {
		t.Errorf("%s: got %v, %d, want %v, %d", what, got, gotError, wanted, wantedError)
	}
}

// newMachine returns a machine with a valid set-up.
func newMachine(t *testing.T, s acquire.Setup) *acquire.Machine {
	t.Helper()
	m, e := acquire.New(s)
	if m == nil || e != api.OK {
		t.Fatalf("New %v: got %v, %d", s, m, e)
	}
	return m
}
