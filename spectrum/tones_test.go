package spectrum_test

import (
	"math/big"
	"testing"

	"strobe/api"
	"strobe/number"
	"strobe/spectrum"
)

// fraction returns a number less its integer part.
func fraction(x *big.Rat) *big.Rat {
	whole := new(big.Int).Div(x.Num(), x.Denom())
	return minus(x, new(big.Rat).SetInt(whole))
}

// referenceTone returns the result of Tone, for arguments without an error.
func referenceTone(n int, cycles, phase *big.Rat, decimals int) ([]api.Span, api.Errno) {
	var l []api.Span
	for j := range n {
		turn := plus(over(times(cycles, integer(j)), integer(n)), phase)
		if turn.Denom().Cmp(big.NewInt(api.MaxNumber)) > 0 {
			return nil, api.ErrLarge
		}
		s, _ := turned(number.Cos, fraction(turn), decimals).write()
		l = append(l, s)
	}
	return l, api.OK
}

// referenceLeakage returns the result of Leakage, for arguments without an error.
func referenceLeakage(n int, cycles *big.Rat, k, decimals int) (api.Span, api.Errno) {
	sum := interval{integer(0), integer(0)}
	e := api.OK
	for _, gap := range []*big.Rat{minus(cycles, integer(k)), plus(cycles, integer(k))} {
		turn := over(gap, integer(2*n))
		if turn.Denom().Cmp(big.NewInt(api.MaxNumber)) > 0 {
			return api.Span{}, api.ErrLarge
		}
		sine := turned(number.Sin, fraction(turn), decimals)
		if sine.contains(integer(0)) {
			e = api.ErrZero
			continue
		}
		sum = sum.plus(hull(over(integer(1), magnitude(sine.low)), over(integer(1), magnitude(sine.high))))
	}
	if e != api.OK {
		return api.Span{}, e
	}
	return product(big.NewRat(1, 2), sum).write()
}

// P7.5: the examples 6 of the chapter.
func TestToneExamples(t *testing.T) {
	l, e := spectrum.Tone(4, "1", "0", 3)
	sameList(t, "Tone", l, e, []api.Span{span("1", "1"), span("0", "0"), span("-1", "-1"), span("0", "0")}, api.OK)
	s, e := spectrum.Leakage(4, "1", 0, 3)
	same(t, "Leakage", s, e, span("250/177", "1000/707"), api.OK)
	s, e = spectrum.Leakage(4, "1", 1, 3)
	same(t, "Leakage", s, e, api.Span{}, api.ErrZero)
}

// P7.5: tones by hand, with a phase and cycles that are no integers.
func TestTonesByHand(t *testing.T) {
	l, e := spectrum.Tone(3, "3/2", "-1/6", 2)
	// The turns are -1/6, 1/3 and 5/6.
	sameList(t, "Tone", l, e, []api.Span{span("1/2", "1/2"), span("-1/2", "-1/2"), span("1/2", "1/2")}, api.OK)
	l, e = spectrum.Tone(2, "1/4", "1/8", 3)
	// The turns are 1/8 and 1/4.
	sameList(t, "Tone", l, e, []api.Span{span("707/1000", "177/250"), span("0", "0")}, api.OK)
	s, e := spectrum.Leakage(2, "1", 0, 1)
	same(t, "Leakage", s, e, span("1", "1"), api.OK)
	s, e = spectrum.Leakage(6, "1", 0, 1)
	same(t, "Leakage", s, e, span("2", "2"), api.OK)
	// The sines of 1/12 and 1/4 are 1/2 and 1; that of -1/12 has the same magnitude.
	s, e = spectrum.Leakage(6, "2", 1, 1)
	same(t, "Leakage", s, e, span("3/2", "3/2"), api.OK)
	s, e = spectrum.Leakage(6, "-2", 1, 1)
	same(t, "Leakage", s, e, span("3/2", "3/2"), api.OK)
	s, e = spectrum.Leakage(4, "-1", 0, 3)
	same(t, "Leakage", s, e, span("250/177", "1000/707"), api.OK)
}

// P7.5: tones and leakages of all numbers of points.
func TestTones(t *testing.T) {
	r := source(40)
	errors := map[api.Errno]int{}
	for n := 1; n <= 64; n++ {
		cycles, phase, decimals := anyNumber(r), anyNumber(r), 1+r.Intn(12)
		l, e := spectrum.Tone(n, text(cycles), text(phase), decimals)
		wanted, wantedError := referenceTone(n, cycles, phase, decimals)
		sameList(t, "Tone", l, e, wanted, wantedError)
		for range 6 {
			cycles, k, decimals := anyNumber(r), r.Intn(n), 1+r.Intn(4)
			s, e := spectrum.Leakage(n, text(cycles), k, decimals)
			wanted, wantedError := referenceLeakage(n, cycles, k, decimals)
			same(t, "Leakage", s, e, wanted, wantedError)
			errors[e]++
		}
	}
	if errors[api.OK] < 50 || errors[api.ErrZero] < 20 {
		t.Errorf("the errors are one-sided: %v", errors)
	}
}

// P7.5: the denominators of the turns are limited, not those of the arguments, and not the integer parts.
func TestLargeTurns(t *testing.T) {
	single := []api.Span{span("1", "1")}
	l, e := spectrum.Tone(1, "1/"+nines(600), "0", 3)
	sameList(t, "Tone", l, e, single, api.OK)
	l, e = spectrum.Tone(2, "1/"+nines(600), "0", 3)
	sameList(t, "Tone", l, e, nil, api.ErrLarge)
	l, e = spectrum.Tone(1, "0", "1/999999999", 3)
	sameList(t, "Tone", l, e, []api.Span{span("999/1000", "1")}, api.OK)
	l, e = spectrum.Tone(1, "0", "1/1000000000", 3)
	sameList(t, "Tone", l, e, nil, api.ErrLarge)
	l, e = spectrum.Tone(2, "2/999999999", "0", 3)
	sameList(t, "Tone", l, e, []api.Span{span("1", "1"), span("999/1000", "1")}, api.OK)
	l, e = spectrum.Tone(2, "1/999999999", "0", 3)
	sameList(t, "Tone", l, e, nil, api.ErrLarge)
	// The first and the last turn have few digits, one between them has more.
	l, e = spectrum.Tone(3, "3/2000000000", "0", 3)
	sameList(t, "Tone", l, e, nil, api.ErrLarge)
	// The cycles have a denominator of ten digits, of which the phase takes away five.
	cycles, phase := plus(big.NewRat(2, 99991), big.NewRat(2, 99989)), big.NewRat(-1, 99989)
	l, e = spectrum.Tone(2, text(cycles), text(phase), 5)
	wanted, wantedError := referenceTone(2, cycles, phase, 5)
	if wantedError != api.OK {
		t.Errorf("the definition has the error %d", wantedError)
	}
	sameList(t, "Tone", l, e, wanted, wantedError)
	// 10^600 - 1 is 3 modulo 4, and its half is 1/2 modulo 1.
	l, e = spectrum.Tone(4, nines(600), nines(600)+"/2", 3)
	sameList(t, "Tone", l, e, []api.Span{span("-1", "-1"), span("0", "0"), span("1", "1"), span("0", "0")}, api.OK)
	s, e := spectrum.Leakage(4, nines(600), 0, 3)
	// The turn is 7/8.
	same(t, "Leakage", s, e, span("250/177", "1000/707"), api.OK)
	s, e = spectrum.Leakage(4, "-"+nines(600), 3, 3)
	wantedSpan, wantedError := referenceLeakage(4, valid("-"+nines(600)), 3, 3)
	same(t, "Leakage", s, e, wantedSpan, wantedError)
}

// P7.5: a denominator that is too large comes before a sine whose span contains 0.
func TestLeakageErrors(t *testing.T) {
	for _, row := range []struct {
		n           int
		cycles      *big.Rat
		k, decimals int
		e           api.Errno
	}{
		{1, big.NewRat(1, 499999999), 0, 12, api.OK},
		{1, big.NewRat(1, 499999999), 0, 8, api.ErrZero},
		{1, big.NewRat(1, 500000001), 0, 12, api.ErrLarge},
		{1, big.NewRat(2, 999999999), 0, 12, api.OK},
		// The denominators are 2 q and 6 q, where q is 400000001.
		{3, plus(integer(1), big.NewRat(3, 400000001)), 1, 3, api.ErrLarge},
		{3, plus(integer(-1), big.NewRat(3, 400000001)), 1, 3, api.ErrLarge},
		{3, plus(integer(1), big.NewRat(3, 100000001)), 1, 3, api.ErrZero},
		{3, plus(integer(-1), big.NewRat(3, 100000001)), 1, 3, api.ErrZero},
		{3, plus(integer(1), big.NewRat(3, 100000001)), 1, 12, api.OK},
		{3, integer(0), 0, 12, api.ErrZero},
		{3, integer(1), 1, 12, api.ErrZero},
		{3, integer(-1), 1, 12, api.ErrZero},
		// A whole turn, and half of one.
		{3, integer(6), 0, 12, api.ErrZero},
		{3, integer(5), 1, 12, api.ErrZero},
		// The sine is from 0 to 1/10, or from -1/10 to 0.
		{20, big.NewRat(1, 2), 0, 1, api.ErrZero},
		{20, big.NewRat(-1, 2), 0, 1, api.ErrZero},
		{20, big.NewRat(1, 2), 0, 2, api.OK},
	} {
		s, e := spectrum.Leakage(row.n, text(row.cycles), row.k, row.decimals)
		wanted, wantedError := referenceLeakage(row.n, row.cycles, row.k, row.decimals)
		same(t, "Leakage", s, e, wanted, wantedError)
		if e != row.e {
			t.Errorf("Leakage %d, %s, %d, %d: got the error %d, want %d", row.n, row.cycles.RatString(), row.k, row.decimals, e, row.e)
		}
	}
}

// P7.5: the arguments are examined from left to right.
func TestToneErrors(t *testing.T) {
	for _, n := range append(far(), 0, 65) {
		l, e := spectrum.Tone(n, "x", "x", 0)
		sameList(t, "Tone", l, e, nil, api.ErrRange)
		l, e = spectrum.Tone(n, "1", "0", 3)
		sameList(t, "Tone", l, e, nil, api.ErrRange)
		s, e := spectrum.Leakage(n, "x", n, 0)
		same(t, "Leakage", s, e, api.Span{}, api.ErrRange)
		s, e = spectrum.Leakage(n, "1", 0, 3)
		same(t, "Leakage", s, e, api.Span{}, api.ErrRange)
	}
	for _, bad := range badNumbers() {
		for _, decimals := range []int{0, 3} {
			l, e := spectrum.Tone(4, bad.a, "x", decimals)
			sameList(t, "Tone", l, e, nil, bad.e)
			l, e = spectrum.Tone(4, "1", bad.a, decimals)
			sameList(t, "Tone", l, e, nil, bad.e)
			s, e := spectrum.Leakage(4, bad.a, 4, decimals)
			same(t, "Leakage", s, e, api.Span{}, bad.e)
			s, e = spectrum.Leakage(4, bad.a, 1, decimals)
			same(t, "Leakage", s, e, api.Span{}, bad.e)
		}
	}
	for _, k := range append(far(), 4) {
		for _, decimals := range []int{0, 3} {
			s, e := spectrum.Leakage(4, "1/"+nines(600), k, decimals)
			same(t, "Leakage", s, e, api.Span{}, api.ErrRange)
		}
	}
	for _, decimals := range badDecimals() {
		l, e := spectrum.Tone(4, "1/"+nines(600), "1/"+nines(600), decimals)
		sameList(t, "Tone", l, e, nil, api.ErrRange)
		s, e := spectrum.Leakage(4, "1/"+nines(600), 0, decimals)
		same(t, "Leakage", s, e, api.Span{}, api.ErrRange)
		s, e = spectrum.Leakage(4, "1", 1, decimals)
		same(t, "Leakage", s, e, api.Span{}, api.ErrRange)
	}
	l, e := spectrum.Tone(64, "1", "0", 12)
	if len(l) != 64 || e != api.OK {
		t.Errorf("Tone: got %d spans, %d", len(l), e)
	}
}
