package spectrum_test

import (
	"math/big"
	"testing"

	"strobe/api"
	"strobe/spectrum"
)

// sameBin compares a bin and its power with the expected enclosures.
func sameBin(t *testing.T, values []api.Rat, k, decimals int, wanted [2]interval) {
	t.Helper()
	parts, e := spectrum.Bin(values, k, decimals)
	real, errReal := wanted[0].write()
	imaginary, errImaginary := wanted[1].write()
	wantedBin, wantedError := [2]api.Span{real, imaginary}, max(errReal, errImaginary)
	if wantedError != api.OK {
		wantedBin = [2]api.Span{}
	}
	same(t, "Bin", parts, e, wantedBin, wantedError)
	power, e := spectrum.Power(values, k, decimals)
	wantedPower, wantedError := wanted[0].squared().plus(wanted[1].squared()).write()
	same(t, "Power", power, e, wantedPower, wantedError)
}

// P7.2: the examples 2 of the chapter.
func TestBinExamples(t *testing.T) {
	values := []api.Rat{"1", "2", "3", "4"}
	single := func(a, b api.Rat) [2]api.Span { return [2]api.Span{span(a, a), span(b, b)} }
	for k, wanted := range [][2]api.Span{single("10", "0"), single("-2", "2"), single("-2", "0"), single("-2", "-2")} {
		x, e := spectrum.Bin(values, k, 5)
		same(t, "Bin", x, e, wanted, api.OK)
	}
	for k, wanted := range []api.Rat{"100", "8", "4", "8"} {
		x, e := spectrum.Power(values, k, 5)
		same(t, "Power", x, e, span(wanted, wanted), api.OK)
	}
	peak, e := spectrum.Peak(values, 5)
	same(t, "Peak", peak, e, 0, api.OK)
}

// P7.2: the enclosure of a bin whose cosines are not rational, computed by hand: cosines of 1/8 of a turn are from 0.7 to 0.8.
func TestBinByHand(t *testing.T) {
	values := []api.Rat{"1", "-2", "0", "0", "0", "0", "0", "1/3"}
	x, e := spectrum.Bin(values, 1, 1)
	// The real part is 1 - 2 (0.7 to 0.8) + (0.7 to 0.8) / 3, the imaginary one 2 (0.7 to 0.8) + (0.7 to 0.8) / 3.
	same(t, "Bin", x, e, [2]api.Span{span("-11/30", "-2/15"), span("49/30", "28/15")}, api.OK)
	p, e := spectrum.Power(values, 1, 1)
	same(t, "Power", p, e, span(text(big.NewRat(16+49*49, 900)), text(big.NewRat(121+56*56, 900))), api.OK)
	// A square of a span that contains 0 begins at 0.
	x, e = spectrum.Bin([]api.Rat{"0", "1", "0", "1", "0", "0", "0", "0"}, 1, 1)
	same(t, "Bin", x, e, [2]api.Span{span("-1/10", "1/10"), span("-8/5", "-7/5")}, api.OK)
	p, e = spectrum.Power([]api.Rat{"0", "1", "0", "1", "0", "0", "0", "0"}, 1, 1)
	same(t, "Power", p, e, span("49/25", "257/100"), api.OK)
}

// P7.2: bins of values of all sizes, with all decimals.
func TestBins(t *testing.T) {
	r := source(10)
	for n := 1; n <= 64; n++ {
		values := anyValues(r, n)
		for _, k := range []int{0, n - 1, n / 2, r.Intn(n)} {
			decimals := 1 + r.Intn(12)
			sameBin(t, values, k, decimals, referenceBin(valids(values), k, decimals))
		}
	}
	values := anyValues(r, 9)
	for decimals := 1; decimals <= 12; decimals++ {
		for k := range values {
			sameBin(t, values, k, decimals, referenceBin(valids(values), k, decimals))
		}
	}
}

// P7.2: enclosures have up to 600 digits; more are ErrLarge.
func TestLargeBins(t *testing.T) {
	r := source(11)
	errors := map[api.Errno]int{}
	for range 60 {
		values := anyValues(r, 1+r.Intn(9))
		for range 1 + r.Intn(2) {
			values[r.Intn(len(values))] = text(largeNumber(r, []int{200, 290, 302, 588, 600}[r.Intn(5)]))
		}
		k, decimals := r.Intn(len(values)), 1+r.Intn(12)
		sameBin(t, values, k, decimals, referenceBin(valids(values), k, decimals))
		_, e := spectrum.Bin(values, k, decimals)
		errors[e]++
	}
	if errors[api.OK] < 10 || errors[api.ErrLarge] < 10 {
		t.Errorf("the errors are one-sided: %v", errors)
	}
}

// P7.2: the products of a bin may have more digits than a number may have, where its parts do not.
func TestBinsOnTheWay(t *testing.T) {
	part := largeNumber(source(12), 600)
	a, b := text(part), text(minus(integer(1), part))
	values := []api.Rat{"0", a, "0", b, "0", a, "0", b}
	x, e := spectrum.Bin(values, 1, 12)
	// All cosines and sines are between the same two numbers or their negatives, with a difference of 10^-12.
	narrow := span("-1/1000000000000", "1/1000000000000")
	same(t, "Bin", x, e, [2]api.Span{narrow, narrow}, api.OK)
	p, e := spectrum.Power(values, 1, 12)
	same(t, "Power", p, e, span("0", "1/500000000000000000000000"), api.OK)
}

// parted returns two numbers whose sum is a number, where its denominator is the product of theirs, which have no common divisors.
func parted(x *big.Rat, left, right *big.Int) (*big.Rat, *big.Rat) {
	top := new(big.Int).ModInverse(right, left)
	top.Mul(top, x.Num()).Mod(top, left)
	part := new(big.Rat).SetFrac(top, left)
	return part, minus(x, part)
}

// P7.2: the parts of a bin may have more digits than a number may have, where its power does not.
func TestPowerOnTheWay(t *testing.T) {
	a, b := hypotenuse(200)
	c, d := hypotenuse(201)
	// The product of two complex numbers with the magnitude 1 has this magnitude, too, and its parts have denominators of 802 digits.
	evens, odds := minus(times(a, c), times(b, d)), plus(times(a, d), times(b, c))
	first, third := parted(evens, a.Denom(), c.Denom())
	fourth, second := parted(odds, a.Denom(), c.Denom())
	values := []api.Rat{text(first), text(minus(integer(0), second)), text(minus(integer(0), third)), text(fourth)}
	x, e := spectrum.Bin(values, 1, 3)
	same(t, "Bin", x, e, [2]api.Span{}, api.ErrLarge)
	p, e := spectrum.Power(values, 1, 3)
	same(t, "Power", p, e, span("1", "1"), api.OK)
}

// P7.2: values, a bin and decimals are examined in this order.
func TestBinErrors(t *testing.T) {
	good := []api.Rat{"1", "2", "3"}
	check := func(values []api.Rat, k, decimals int, wanted api.Errno) {
		t.Helper()
		x, e := spectrum.Bin(values, k, decimals)
		same(t, "Bin", x, e, [2]api.Span{}, wanted)
		p, e := spectrum.Power(values, k, decimals)
		same(t, "Power", p, e, api.Span{}, wanted)
	}
	for _, bad := range badLists() {
		for _, k := range append(far(), 0) {
			check(bad.l, k, 0, bad.e)
			check(bad.l, k, 3, bad.e)
		}
		peak, e := spectrum.Peak(bad.l, 0)
		same(t, "Peak", peak, e, 0, bad.e)
		peak, e = spectrum.Peak(bad.l, 3)
		same(t, "Peak", peak, e, 0, bad.e)
	}
	for _, k := range append(far(), 3, 4) {
		check(good, k, 3, api.ErrRange)
	}
	for _, decimals := range badDecimals() {
		check(good, 2, decimals, api.ErrRange)
		peak, e := spectrum.Peak(good, decimals)
		same(t, "Peak", peak, e, 0, api.ErrRange)
	}
	check([]api.Rat{nines(600), "1"}, 2, 3, api.ErrRange)
	check([]api.Rat{nines(600), "1"}, 0, 3, api.ErrLarge)
}

// P7.2: the peak is above the powers of all other bins from 0 to half of the points.
func TestPeak(t *testing.T) {
	for _, row := range []struct {
		values   []api.Rat
		decimals int
		peak     int
		e        api.Errno
	}{
		{[]api.Rat{"0"}, 1, 0, api.OK},
		{[]api.Rat{"-7/3"}, 12, 0, api.OK},
		{[]api.Rat{"1", "-1"}, 1, 1, api.OK},
		{[]api.Rat{"1", "0"}, 1, 0, api.ErrOpen},
		{[]api.Rat{"0", "0", "0", "0"}, 12, 0, api.ErrOpen},
		{[]api.Rat{"1", "-1", "1", "-1"}, 1, 2, api.OK},
		{[]api.Rat{"1", "0", "-1", "0"}, 1, 1, api.OK},
		{[]api.Rat{"1", "0", "-1", "0", "1", "0", "-1", "0"}, 1, 2, api.OK},
		// The bins 1 and 2 of three values have the same power, and only bin 1 counts.
		{[]api.Rat{"1", "-1", "0"}, 3, 1, api.OK},
		// The powers are 2.89 and 0.79.
		{[]api.Rat{"1", "7/10", "0"}, 1, 0, api.OK},
	} {
		peak, e := spectrum.Peak(row.values, row.decimals)
		same(t, "Peak", peak, e, row.peak, row.e)
	}
}

// P7.2: more decimals decide which bin is the peak, if one is.
func TestPeakNeedsDecimals(t *testing.T) {
	// The power of bin 0 is 1.0201, that of bin 1 is 1.0063: with 2 decimals it is up to 1.0240, with 3 up to 1.0088.
	for decimals := 1; decimals <= 12; decimals++ {
		wanted := api.OK
		if decimals < 3 {
			wanted = api.ErrOpen
		}
		peak, e := spectrum.Peak([]api.Rat{"1/100", "1", "0", "0", "0"}, decimals)
		same(t, "Peak", peak, e, 0, wanted)
	}
	r := source(15)
	open := 0
	for range 300 {
		values := anyValues(r, 1+r.Intn(12))
		decimals := 1 + r.Intn(2)
		wanted, wantedError := referencePeak(valids(values), decimals)
		peak, e := spectrum.Peak(values, decimals)
		same(t, "Peak", peak, e, wanted, wantedError)
		if e == api.ErrOpen {
			open++
		}
	}
	if open < 15 || open > 285 {
		t.Errorf("%d of 300 peaks are open", open)
	}
}

// P7.2: the powers may have more digits than a number may have, as they are no results.
func TestLargePeak(t *testing.T) {
	peak, e := spectrum.Peak([]api.Rat{nines(600), "-" + nines(600), "1"}, 3)
	same(t, "Peak", peak, e, 1, api.OK)
	peak, e = spectrum.Peak([]api.Rat{"1/" + nines(600), "1/" + nines(599)}, 12)
	same(t, "Peak", peak, e, 0, api.OK)
}

// P7.2: arguments do not change.
func TestBinsKeepValues(t *testing.T) {
	unchanged(t, []api.Rat{"3", "1", "2/3", "7"}, func(l []api.Rat) {
		spectrum.Bin(l, 1, 3)
		spectrum.Power(l, 1, 3)
		spectrum.Peak(l, 3)
	})
}
