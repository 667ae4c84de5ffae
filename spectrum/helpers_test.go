package spectrum_test

import (
	"math"
	"math/big"
	"math/rand"
	"slices"
	"strings"
	"testing"

	"strobe/api"
)

// nines returns a number of n digits 9.
func nines(n int) api.Rat { return api.Rat(strings.Repeat("9", n)) }

// source returns a sequence of random numbers that is the same on each run.
func source(seed int64) *rand.Rand { return rand.New(rand.NewSource(seed)) }

// valid returns a valid number as a value of math/big.
func valid(a api.Rat) *big.Rat {
	x, ok := new(big.Rat).SetString(string(a))
	if !ok {
		panic("no number: " + string(a))
	}
	return x
}

// valids returns valid numbers as values of math/big.
func valids(l []api.Rat) []*big.Rat {
	var values []*big.Rat
	for _, a := range l {
		values = append(values, valid(a))
	}
	return values
}

// text returns the number with a value, whatever its digits.
func text(x *big.Rat) api.Rat { return api.Rat(x.RatString()) }

// texts returns the numbers with some values.
func texts(l []*big.Rat) []api.Rat {
	var numbers []api.Rat
	for _, x := range l {
		numbers = append(numbers, text(x))
	}
	return numbers
}

// rat returns the number with a value, or ErrLarge if it has too many digits.
func rat(x *big.Rat) (api.Rat, api.Errno) {
	if len(strings.TrimPrefix(x.Num().String(), "-")) > api.MaxDigits || len(x.Denom().String()) > api.MaxDigits {
		return "", api.ErrLarge
	}
	return text(x), api.OK
}

// rats returns the numbers with some values, or ErrLarge if one has too many digits.
func rats(l []*big.Rat) ([]api.Rat, api.Errno) {
	for _, x := range l {
		if _, e := rat(x); e != api.OK {
			return nil, e
		}
	}
	return texts(l), api.OK
}

// span returns a span.
func span(low, high api.Rat) api.Span { return api.Span{Low: low, High: high} }

func plus(a, b *big.Rat) *big.Rat  { return new(big.Rat).Add(a, b) }
func minus(a, b *big.Rat) *big.Rat { return new(big.Rat).Sub(a, b) }
func times(a, b *big.Rat) *big.Rat { return new(big.Rat).Mul(a, b) }
func over(a, b *big.Rat) *big.Rat  { return new(big.Rat).Quo(a, b) }
func magnitude(a *big.Rat) *big.Rat {
	return new(big.Rat).Abs(a)
}

// integer returns an integer as a value of math/big.
func integer(n int) *big.Rat { return new(big.Rat).SetInt64(int64(n)) }

// exact returns the exact value of a sample.
func exact(f float32) *big.Rat { return new(big.Rat).SetFloat64(float64(f)) }

// modulo returns the index modulo n, for any integers.
func modulo(i, n int) int {
	return int(new(big.Int).Mod(big.NewInt(int64(i)), big.NewInt(int64(n))).Int64())
}

// kinds returns all kinds of windows.
func kinds() []string { return []string{"box", "triangle", "welch"} }

// notFinite returns NaNs and infinities.
func notFinite() []float32 {
	return []float32{float32(math.NaN()), float32(math.Inf(1)), float32(math.Inf(-1)), math.Float32frombits(0xffc00001)}
}

// negativeZero returns -0.
func negativeZero() float32 { return float32(math.Copysign(0, -1)) }

// power returns a power of 2.
func power(exponent int) float32 { return float32(math.Ldexp(1, exponent)) }

// anyNumber returns a small number.
func anyNumber(r *rand.Rand) *big.Rat {
	return big.NewRat(r.Int63n(41)-20, 1+r.Int63n(6))
}

// anyValues returns n small numbers.
func anyValues(r *rand.Rand, n int) []api.Rat {
	l := make([]api.Rat, n)
	for i := range l {
		l[i] = text(anyNumber(r))
	}
	return l
}

// zeroes returns n numbers 0.
func zeroes(n int) []api.Rat { return slices.Repeat([]api.Rat{"0"}, n) }

// largeNumber returns a number from 0 to 1 with a denominator of n digits, and nearly as many in its numerator.
func largeNumber(r *rand.Rand, n int) *big.Rat {
	limit := new(big.Int).Exp(big.NewInt(10), big.NewInt(int64(n-1)), nil)
	bottom := new(big.Int).Add(limit, new(big.Int).Rand(r, limit))
	return new(big.Rat).SetFrac(new(big.Int).Rand(r, limit), bottom)
}

// badNumber is a string that is no number, and its error.
type badNumber struct {
	a api.Rat
	e api.Errno
}

// badNumbers returns strings that are no numbers.
func badNumbers() []badNumber {
	var l []badNumber
	for _, a := range []api.Rat{"", "-", "x", "-0", "01", "1/0", "1/1", "2/4", "0/5", "+1", " 1", "1.5", "1/-2", "1/2/3", "\xff", "1\x00", nines(600) + "/" + nines(600)} {
		l = append(l, badNumber{a, api.ErrForm})
	}
	for _, a := range []api.Rat{nines(601), "-" + nines(601), "1/" + nines(601)} {
		l = append(l, badNumber{a, api.ErrLarge})
	}
	return l
}

// badList is a list with an error of values.
type badList struct {
	l []api.Rat
	e api.Errno
}

// badLists returns lists with an error of values.
func badLists() []badList {
	l := []badList{{nil, api.ErrEmpty}, {[]api.Rat{}, api.ErrEmpty}, {zeroes(65), api.ErrMany}, {make([]api.Rat, 65), api.ErrMany}, {make([]api.Rat, 5000), api.ErrMany}, {[]api.Rat{"1", nines(601), "x"}, api.ErrLarge}, {[]api.Rat{"1", "x", nines(601)}, api.ErrForm}}
	for _, bad := range badNumbers() {
		l = append(l, badList{[]api.Rat{bad.a}, bad.e}, badList{append(zeroes(63), bad.a), bad.e})
	}
	return l
}

// far returns numbers that are out of every range.
func far() []int { return []int{math.MinInt, math.MinInt + 1, -1, 1000000000, math.MaxInt} }

// badDecimals returns decimals that are out of range.
func badDecimals() []int { return append(far(), 0, 13) }

// same reports a result or an error that differs from the expected one.
func same[T comparable](t *testing.T, what string, got T, gotError api.Errno, wanted T, wantedError api.Errno) {
	t.Helper()
	if got != wanted || gotError != wantedError {
		t.Errorf("%s: got %v, %d, want %v, %d", what, got, gotError, wanted, wantedError)
	}
}

// sameList reports a list or an error that differs from the expected one; nil and empty lists are equal.
func sameList[T comparable](t *testing.T, what string, got []T, gotError api.Errno, wanted []T, wantedError api.Errno) {
	t.Helper()
	if !slices.Equal(got, wanted) || gotError != wantedError {
		t.Errorf("%s: got %v, %d, want %v, %d", what, got, gotError, wanted, wantedError)
	}
}

// unchanged reports a list that a function has changed.
func unchanged[T comparable](t *testing.T, l []T, call func([]T)) {
	t.Helper()
	before := slices.Clone(l)
	call(l)
	if !slices.Equal(l, before) {
		t.Errorf("the list %v has become %v", before, l)
	}
}
