package wave_test

import (
	"math"
	"math/big"
	"math/rand"
	"slices"
	"strings"
	"testing"

	"strobe/api"
	"strobe/wave"
)

// exampleRecord returns the record S of the chapter's examples.
func exampleRecord() []float32 { return []float32{0, 1, 4, 9, 16} }

// nines returns a number of n digits 9.
func nines(n int) api.Rat { return api.Rat(strings.Repeat("9", n)) }

// zeros returns n digits 0.
func zeros(n int) api.Rat { return api.Rat(strings.Repeat("0", n)) }

// source returns a sequence of random numbers that is the same on each run.
func source(seed int64) *rand.Rand { return rand.New(rand.NewSource(seed)) }

// valid returns a valid number as a value of math/big.
func valid(a api.Rat) *big.Rat {
	x, ok := new(big.Rat).SetString(string(a))
	if !ok {
		panic("no number: " + string(a))
	}
	return x
}

// rat returns the number with a value, or ErrLarge if it has too many digits.
func rat(x *big.Rat) (api.Rat, api.Errno) {
	if len(strings.TrimPrefix(x.Num().String(), "-")) > api.MaxDigits || len(x.Denom().String()) > api.MaxDigits {
		return "", api.ErrLarge
	}
	return api.Rat(x.RatString()), api.OK
}

// text returns the number with a value that has few digits.
func text(x *big.Rat) api.Rat { return api.Rat(x.RatString()) }

// span returns a span.
func span(low, high api.Rat) api.Span { return api.Span{Low: low, High: high} }

// around returns the span from a center minus a radius to the center plus the radius, or ErrLarge.
func around(center, radius *big.Rat) (api.Span, api.Errno) {
	low, errLow := rat(minus(center, radius))
	high, errHigh := rat(plus(center, radius))
	if e := max(errLow, errHigh); e != api.OK {
		return api.Span{}, e
	}
	return span(low, high), api.OK
}

func plus(a, b *big.Rat) *big.Rat  { return new(big.Rat).Add(a, b) }
func minus(a, b *big.Rat) *big.Rat { return new(big.Rat).Sub(a, b) }
func times(a, b *big.Rat) *big.Rat { return new(big.Rat).Mul(a, b) }
func over(a, b *big.Rat) *big.Rat  { return new(big.Rat).Quo(a, b) }

// integer returns an integer as a value of math/big.
func integer(n int) *big.Rat { return new(big.Rat).SetInt64(int64(n)) }

// exact returns the exact value of a sample.
func exact(f float32) *big.Rat { return new(big.Rat).SetFloat64(float64(f)) }

// contains reports whether a number is a member of a span.
func contains(s api.Span, x *big.Rat) bool {
	return valid(s.Low).Cmp(x) <= 0 && valid(s.High).Cmp(x) >= 0
}

// within reports whether all numbers of a span are members of another one.
func within(inner, outer api.Span) bool {
	return contains(outer, valid(inner.Low)) && contains(outer, valid(inner.High))
}

// notFinite returns NaNs and infinities.
func notFinite() []float32 {
	return []float32{float32(math.NaN()), float32(math.Inf(1)), float32(math.Inf(-1)), math.Float32frombits(0xffc00001)}
}

// badRecords returns records with an error, and the error.
func badRecords() map[api.Errno][][]float32 {
	records := map[api.Errno][][]float32{api.ErrMany: {make([]float32, 4097), append(notFinite(), make([]float32, 4096)...)}}
	for _, f := range notFinite() {
		records[api.ErrForm] = append(records[api.ErrForm], []float32{f}, []float32{0, 1, 2, 3, f}, append(make([]float32, 4095), f))
	}
	return records
}

// negativeZero returns -0.
func negativeZero() float32 { return float32(math.Copysign(0, -1)) }

// anyFloat returns a float of any size that is finite.
func anyFloat(r *rand.Rand) float32 {
	for {
		f := math.Float32frombits(r.Uint32())
		if d := f - f; d == 0 {
			return f
		}
	}
}

// anyRecord returns a record of n samples: floats of any size, small integers, or fractions.
func anyRecord(r *rand.Rand, n int) []float32 {
	kind := r.Intn(3)
	record := make([]float32, n)
	for i := range record {
		switch kind {
		case 0:
			record[i] = anyFloat(r)
		case 1:
			record[i] = float32(r.Intn(9) - 4)
		default:
			record[i] = float32(r.NormFloat64())
		}
	}
	return record
}

// anyTime returns a time of a record of n samples.
func anyTime(r *rand.Rand, n int) *big.Rat {
	if r.Intn(5) == 0 {
		return integer(r.Intn(n))
	}
	bottom := 1 + r.Int63n([]int64{4, 60, 1e9}[r.Intn(3)])
	return big.NewRat(r.Int63n(bottom*int64(n-1)+1), bottom)
}

// largeNumber returns a number from 0 to 1 with a denominator of n digits, and nearly as many in its numerator.
func largeNumber(r *rand.Rand, n int) *big.Rat {
	limit := new(big.Int).Exp(big.NewInt(10), big.NewInt(int64(n-1)), nil)
	bottom := new(big.Int).Add(limit, new(big.Int).Rand(r, limit))
	return new(big.Rat).SetFrac(new(big.Int).Rand(r, limit), bottom)
}

// anyBound returns a number that is at least 0, and often 0.
func anyBound(r *rand.Rand) *big.Rat {
	return big.NewRat(max(0, r.Int63n(40)-10), 1+r.Int63n(30))
}

// badNumber is a string that is no number, and its error.
type badNumber struct {
	a api.Rat
	e api.Errno
}

// badNumbers returns strings that are no numbers.
func badNumbers() []badNumber {
	var l []badNumber
	for _, a := range []api.Rat{"", "-", "x", "-0", "01", "1/0", "1/1", "2/4", "0/5", "+1", " 1", "1.5", "1/-2", "1/2/3", "\xff", "1\x00", nines(600) + "/" + nines(600)} {
		l = append(l, badNumber{a, api.ErrForm})
	}
	for _, a := range []api.Rat{nines(601), "-" + nines(601), "1/" + nines(601)} {
		l = append(l, badNumber{a, api.ErrLarge})
	}
	return l
}

// notAbove returns strings that are no numbers, and numbers below 0, with their errors; 0 is among them if it is not permitted.
func notAbove(least int) []badNumber {
	l := badNumbers()
	for _, a := range []api.Rat{"-1", "-1/" + nines(600), "-" + nines(600)} {
		l = append(l, badNumber{a, api.ErrRange})
	}
	if least > 0 {
		l = append(l, badNumber{"0", api.ErrRange})
	}
	return l
}

// badTimes returns strings that are no times of a record of n samples, with their errors.
func badTimes(n int) []badNumber {
	beyond := plus(integer(n-1), valid("1/1"+zeros(599)))
	return append(notAbove(0), badNumber{text(integer(n)), api.ErrRange}, badNumber{nines(600), api.ErrRange}, badNumber{text(plus(integer(n-1), big.NewRat(1, 2))), api.ErrRange}, badNumber{shortened(beyond), api.ErrRange})
}

// shortened returns a number that is nearly as large if a value has too many digits.
func shortened(x *big.Rat) api.Rat {
	if a, e := rat(x); e == api.OK {
		return a
	}
	return text(plus(x, big.NewRat(1, 7)))
}

// badSignals returns bounds with an error.
func badSignals() map[wave.Signal]api.Errno {
	signals := map[wave.Signal]api.Errno{}
	for _, bad := range notAbove(0) {
		signals[wave.Signal{Bend: bad.a, Noise: "-1"}] = bad.e
		signals[wave.Signal{Bend: bad.a, Noise: "x"}] = bad.e
		signals[wave.Signal{Bend: bad.a, Noise: "1"}] = bad.e
		signals[wave.Signal{Bend: "0", Noise: bad.a}] = bad.e
	}
	return signals
}

// same reports a result or an error that differs from the expected one.
func same[T comparable](t *testing.T, what string, got T, gotError api.Errno, wanted T, wantedError api.Errno) {
	t.Helper()
	if got != wanted || gotError != wantedError {
		t.Errorf("%s: got %v, %d, want %v, %d", what, got, gotError, wanted, wantedError)
	}
}

// sameList reports a list or an error that differs from the expected one; nil and empty lists are equal.
func sameList[T comparable](t *testing.T, what string, got []T, gotError api.Errno, wanted []T, wantedError api.Errno) {
	t.Helper()
	if !slices.Equal(got, wanted) || gotError != wantedError {
		t.Errorf("%s: got %v, %d, want %v, %d", what, got, gotError, wanted, wantedError)
	}
}

// sameRecord is sameList for samples, and tells -0 from 0, as no result is -0.
func sameRecord(t *testing.T, what string, got []float32, gotError api.Errno, wanted []float32, wantedError api.Errno) {
	t.Helper()
	sameList(t, what, bitsOf(got), gotError, bitsOf(wanted), wantedError)
}

// bitsOf returns the bits of samples.
func bitsOf(samples []float32) []uint32 {
	l := make([]uint32, len(samples))
	for i, f := range samples {
		l[i] = math.Float32bits(f)
	}
	return l
}

// unchanged reports a record that a function has changed.
func unchanged(t *testing.T, samples []float32, call func([]float32)) {
	t.Helper()
	before := slices.Clone(samples)
	call(samples)
	sameRecord(t, "the samples", samples, api.OK, before, api.OK)
}
