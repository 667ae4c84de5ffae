package number_test

import (
	"math/big"
	"math/rand"
	"regexp"
	"strings"
	"testing"

	"strobe/api"
	"strobe/number"
)

// form is the form of a number, without the rules for divisors and digits.
var form = regexp.MustCompile(`^(0|-?[1-9][0-9]*)(/([2-9]|[1-9][0-9]+))?$`)

// nines returns a number of n digits 9.
func nines(n int) string { return strings.Repeat("9", n) }

// power returns 10 to the power of n.
func power(n int) string { return "1" + strings.Repeat("0", n) }

// validNumbers returns numbers of all sizes.
func validNumbers() []api.Rat {
	l := []api.Rat{
		"0", "1", "-1", "2", "-2", "7", "-7", "10", "1/2", "-1/2", "3/2", "-3/2", "1/3", "-2/3", "9/16", "-22/7", "355/113",
		"999999999", "-1/999999999", "9223372036854775807", "-9223372036854775808", "18446744073709551615", "18446744073709551616",
		"18446744073709551617/18446744073709551616", "-340282366920938463463374607431768211455", "1/340282366920938463463374607431768211456",
		"10000000000000000000", "10000000000000000001/3", "99999999999999999999999999999999999999",
	}
	for _, n := range []int{599, 600} {
		l = append(l, api.Rat(nines(n)), api.Rat("-"+nines(n)), api.Rat("1/"+nines(n)), api.Rat("-1/"+nines(n)))
	}
	return append(l, api.Rat(power(599)), api.Rat("1/"+power(599)), api.Rat(nines(600)+"/"+power(599)), api.Rat("-"+power(599)+"/"+nines(600)))
}

// invalidNumbers returns strings that are no numbers.
func invalidNumbers() []api.Rat {
	l := []api.Rat{
		"", "-", "+", "/", "-/", "1/", "/2", "-1/", "+1", "--1", "-0", "-0/5", "00", "01", "-01", "007/2", "1/02", "1/00", "0/1", "0/2", "0/7", "-1/1", "1/1",
		"1/0", "0/0", "2/4", "-6/9", "15/5", "1/-2", "1/+2", "1/2/3", "1//2", " 1", "1 ", "1\n", "1/2\n", "1 /2", "1/ 2", "1.5", "1e5", "0x10", "1_0", "NaN", "Inf",
		"x", "\x00", "1\x00", "\xff", "1/\xff", "\u0661", "\uff11", "\u22121", "1/\u0662",
	}
	for _, n := range []int{601, 5000} {
		l = append(l, api.Rat(nines(n)), api.Rat("-"+nines(n)), api.Rat("1/"+nines(n)), api.Rat("0/"+nines(n)), api.Rat("-0/"+nines(n)), api.Rat("0"+nines(n)), api.Rat(nines(n)+"/1"), api.Rat(nines(n)+"/"+nines(n)), api.Rat(nines(n)+"x"))
	}
	return append(l, api.Rat("2/"+strings.Repeat("2", 600)), api.Rat(power(599)+"/"+power(598)))
}

// referenceCheck returns the error of a number by its definition.
func referenceCheck(a api.Rat) api.Errno {
	if !form.MatchString(string(a)) {
		return api.ErrForm
	}
	top, bottom, found := strings.Cut(strings.TrimPrefix(string(a), "-"), "/")
	if len(top) > api.MaxDigits || len(bottom) > api.MaxDigits {
		return api.ErrLarge
	}
	if found && new(big.Int).GCD(nil, nil, whole(top), whole(bottom)).Cmp(big.NewInt(1)) > 0 {
		return api.ErrForm
	}
	return api.OK
}

// whole returns the integer with these digits.
func whole(digits string) *big.Int {
	n, ok := new(big.Int).SetString(digits, 10)
	if !ok {
		panic("no integer: " + digits)
	}
	return n
}

// value returns the value of a number that is valid.
func value(a api.Rat) *big.Rat {
	x, ok := new(big.Rat).SetString(string(a))
	if !ok {
		panic("no number: " + string(a))
	}
	return x
}

// text returns the number with a value, or ErrLarge.
func text(x *big.Rat) (api.Rat, api.Errno) {
	s := x.RatString()
	top, bottom, _ := strings.Cut(strings.TrimPrefix(s, "-"), "/")
	if len(top) > api.MaxDigits || len(bottom) > api.MaxDigits {
		return "", api.ErrLarge
	}
	return api.Rat(s), api.OK
}

// firstError returns the first error, or OK.
func firstError(errors ...api.Errno) api.Errno {
	for _, e := range errors {
		if e != api.OK {
			return e
		}
	}
	return api.OK
}

// span returns a span.
func span(low, high api.Rat) api.Span { return api.Span{Low: low, High: high} }

// expect reports a result or an error that differs from the expected one.
func expect[T comparable](t *testing.T, what string, got T, gotError api.Errno, wanted T, wantedError api.Errno) {
	t.Helper()
	if got != wanted || gotError != wantedError {
		t.Errorf("%s: got %v, %d, want %v, %d", brief(what), got, gotError, wanted, wantedError)
	}
}

// brief cuts a long text.
func brief(s string) string {
	if len(s) > 200 {
		return s[:200] + ".."
	}
	return s
}

// source returns a sequence of random numbers that is the same on each run.
func source(seed int64) *rand.Rand { return rand.New(rand.NewSource(seed)) }

// randomRat returns a number with a random number of bits in its numerator and its denominator.
func randomRat(r *rand.Rand, bits int) *big.Rat {
	limit := func() *big.Int { return new(big.Int).Lsh(big.NewInt(1), uint(1+r.Intn(bits))) }
	top := new(big.Int).Rand(r, limit())
	bottom := new(big.Int).Add(new(big.Int).Rand(r, limit()), big.NewInt(1))
	if r.Intn(2) == 0 {
		top.Neg(top)
	}
	return new(big.Rat).SetFrac(top, bottom)
}

// randomSpan returns a span with random ends.
func randomSpan(r *rand.Rand, bits int) api.Span {
	x, y := randomRat(r, bits), randomRat(r, bits)
	if x.Cmp(y) > 0 {
		x, y = y, x
	}
	return span(api.Rat(x.RatString()), api.Rat(y.RatString()))
}

// contains reports whether a number lies in a span.
func contains(s api.Span, x *big.Rat) bool {
	return value(s.Low).Cmp(x) <= 0 && x.Cmp(value(s.High)) <= 0
}

// within reports whether a span lies in another one.
func within(inner, outer api.Span) bool {
	return contains(outer, value(inner.Low)) && contains(outer, value(inner.High))
}

// mustSpan returns a span that has no error.
func mustSpan(t *testing.T, what string, s api.Span, e api.Errno) api.Span {
	t.Helper()
	if e != api.OK || number.CheckSpan(s) != api.OK {
		t.Fatalf("%s: got %v, %d", brief(what), s, e)
	}
	return s
}
