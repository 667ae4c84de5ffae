package measure_test

import (
	"math"
	"math/big"
	"math/rand"
	"slices"
	"strings"
	"testing"

	"strobe/api"
)

// exampleRecord returns the record R of the chapter's examples.
func exampleRecord() []float32 { return []float32{0, 0, 2, 4, 4, 4, 2, 0, 0, 2, 4} }

// nines returns a number of n digits 9.
func nines(n int) api.Rat { return api.Rat(strings.Repeat("9", n)) }

// zeros returns n digits 0.
func zeros(n int) api.Rat { return api.Rat(strings.Repeat("0", n)) }

// source returns a sequence of random numbers that is the same on each run.
func source(seed int64) *rand.Rand { return rand.New(rand.NewSource(seed)) }

// valid returns a valid number as a value of math/big.
func valid(a api.Rat) *big.Rat {
	x, ok := new(big.Rat).SetString(string(a))
	if !ok {
		panic("no number: " + string(a))
	}
	return x
}

// rat returns the number with a value, or ErrLarge if it has too many digits.
func rat(x *big.Rat) (api.Rat, api.Errno) {
	if len(strings.TrimPrefix(x.Num().String(), "-")) > api.MaxDigits || len(x.Denom().String()) > api.MaxDigits {
		return "", api.ErrLarge
	}
	return api.Rat(x.RatString()), api.OK
}

// rats returns the numbers with some values, or ErrLarge if one has too many digits.
func rats(l []*big.Rat) ([]api.Rat, api.Errno) {
	var texts []api.Rat
	for _, x := range l {
		a, e := rat(x)
		if e != api.OK {
			return nil, e
		}
		texts = append(texts, a)
	}
	return texts, api.OK
}

// text returns the number with a value that has few digits.
func text(x *big.Rat) api.Rat { return api.Rat(x.RatString()) }

// span returns a span.
func span(low, high api.Rat) api.Span { return api.Span{Low: low, High: high} }

func plus(a, b *big.Rat) *big.Rat  { return new(big.Rat).Add(a, b) }
func minus(a, b *big.Rat) *big.Rat { return new(big.Rat).Sub(a, b) }
func times(a, b *big.Rat) *big.Rat { return new(big.Rat).Mul(a, b) }
func over(a, b *big.Rat) *big.Rat  { return new(big.Rat).Quo(a, b) }

// distance returns the absolute difference.
func distance(a, b *big.Rat) *big.Rat {
	d := minus(a, b)
	return d.Abs(d)
}

// integer returns an integer as a value of math/big.
func integer(n int) *big.Rat { return new(big.Rat).SetInt64(int64(n)) }

// exact returns the exact value of a sample.
func exact(f float32) *big.Rat { return new(big.Rat).SetFloat64(float64(f)) }

// exacts returns the exact values of samples.
func exacts(s []float32) []*big.Rat {
	var l []*big.Rat
	for _, f := range s {
		l = append(l, exact(f))
	}
	return l
}

// extremes returns the least and the greatest of at least one number.
func extremes(l []*big.Rat) (*big.Rat, *big.Rat) {
	return slices.MinFunc(l, (*big.Rat).Cmp), slices.MaxFunc(l, (*big.Rat).Cmp)
}

// notFinite returns NaNs and infinities.
func notFinite() []float32 {
	return []float32{float32(math.NaN()), float32(math.Inf(1)), float32(math.Inf(-1)), math.Float32frombits(0xffc00001)}
}

// badRecord is a record with an error.
type badRecord struct {
	s []float32
	e api.Errno
}

// badRecords returns records with an error.
func badRecords() []badRecord {
	records := []badRecord{{make([]float32, 4097), api.ErrMany}, {append(notFinite(), make([]float32, 4096)...), api.ErrMany}}
	for _, f := range notFinite() {
		records = append(records, badRecord{[]float32{f}, api.ErrForm}, badRecord{[]float32{0, 9, 0, 9, f}, api.ErrForm}, badRecord{append(make([]float32, 4095), f), api.ErrForm})
	}
	return records
}

// negativeZero returns -0.
func negativeZero() float32 { return float32(math.Copysign(0, -1)) }

// anyFloat returns a float of any size that is finite.
func anyFloat(r *rand.Rand) float32 {
	for {
		f := math.Float32frombits(r.Uint32())
		if d := f - f; d == 0 {
			return f
		}
	}
}

// anyRecord returns a record of n samples: floats of any size, small integers, or fractions.
func anyRecord(r *rand.Rand, n int) []float32 {
	kind := r.Intn(4)
	record := make([]float32, n)
	for i := range record {
		switch kind {
		case 0:
			record[i] = anyFloat(r)
		case 1:
			record[i] = float32(r.NormFloat64())
		default:
			record[i] = float32(r.Intn(9) - 4)
		}
		if r.Intn(9) == 0 {
			record[i] = negativeZero()
		}
	}
	return record
}

// anyNumber returns a small number.
func anyNumber(r *rand.Rand) *big.Rat {
	return big.NewRat(r.Int63n(41)-20, 1+r.Int63n(6))
}

// largeNumber returns a number from 0 to 1 with a denominator of n digits, and nearly as many in its numerator.
func largeNumber(r *rand.Rand, n int) *big.Rat {
	limit := new(big.Int).Exp(big.NewInt(10), big.NewInt(int64(n-1)), nil)
	bottom := new(big.Int).Add(limit, new(big.Int).Rand(r, limit))
	return new(big.Rat).SetFrac(new(big.Int).Rand(r, limit), bottom)
}

// levels returns levels for a record: those of samples, those in the middle of two, and others.
func levels(r *rand.Rand, s []float32) []*big.Rat {
	l := []*big.Rat{integer(0), big.NewRat(1, 3), integer(100), anyNumber(r)}
	for range min(len(s), 3) {
		a, b := exact(s[r.Intn(len(s))]), exact(s[r.Intn(len(s))])
		l = append(l, a, times(plus(a, b), big.NewRat(1, 2)))
	}
	return l
}

// badNumber is a string that is no number, and its error.
type badNumber struct {
	a api.Rat
	e api.Errno
}

// badNumbers returns strings that are no numbers.
func badNumbers() []badNumber {
	var l []badNumber
	for _, a := range []api.Rat{"", "-", "x", "-0", "01", "1/0", "1/1", "2/4", "0/5", "+1", " 1", "1.5", "1/-2", "1/2/3", "\xff", "1\x00", nines(600) + "/" + nines(600)} {
		l = append(l, badNumber{a, api.ErrForm})
	}
	for _, a := range []api.Rat{nines(601), "-" + nines(601), "1/" + nines(601)} {
		l = append(l, badNumber{a, api.ErrLarge})
	}
	return l
}

// far returns numbers that are out of every range.
func far() []int { return []int{math.MinInt, math.MinInt + 1, -1, 1000000000, math.MaxInt} }

// same reports a result or an error that differs from the expected one.
func same[T comparable](t *testing.T, what string, got T, gotError api.Errno, wanted T, wantedError api.Errno) {
	t.Helper()
	if got != wanted || gotError != wantedError {
		t.Errorf("%s: got %v, %d, want %v, %d", what, got, gotError, wanted, wantedError)
	}
}

// sameList reports a list or an error that differs from the expected one; nil and empty lists are equal.
func sameList[T comparable](t *testing.T, what string, got []T, gotError api.Errno, wanted []T, wantedError api.Errno) {
	t.Helper()
	if !slices.Equal(got, wanted) || gotError != wantedError {
		t.Errorf("%s: got %v, %d, want %v, %d", what, got, gotError, wanted, wantedError)
	}
}

// unchanged reports a record that a function has changed.
func unchanged(t *testing.T, s []float32, call func([]float32)) {
	t.Helper()
	before := slices.Clone(s)
	call(s)
	for i, f := range s {
		if math.Float32bits(f) != math.Float32bits(before[i]) {
			t.Errorf("the sample %d has become %g", i, f)
		}
	}
}
