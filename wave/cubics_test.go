package wave_test

import (
	"math/big"
	"testing"

	"strobe/api"
	"strobe/wave"
)

// P5.2: the examples of the chapter.
func TestCubicExamples(t *testing.T) {
	first, weights, e := wave.Weights(exampleRecord(), "3/2")
	sameList(t, "Weights", weights, e, []api.Rat{"-1/16", "9/16", "9/16", "-1/16"}, api.OK)
	same(t, "the first index", first, e, 0, api.OK)
	value, e := wave.Cubic(exampleRecord(), "3/2")
	same(t, "Cubic", value, e, "9/4", api.OK)
	values, e := wave.CubicSpan(exampleRecord(), "3/2", "24", "0")
	same(t, "CubicSpan", values, e, span("27/16", "45/16"), api.OK)
	value, e = wave.Poly([]api.Rat{"0", "0", "1"}, "3/2")
	same(t, "Poly", value, e, "9/4", api.OK)
}

// checkCubic compares the cubic interpolation at a time, its weights and its span with the definition.
func checkCubic(t *testing.T, samples []float32, at, fourth, noise *big.Rat) {
	t.Helper()
	n := len(samples)
	wantedFirst, wantedWeights := lagrange(at, n)
	wantedTexts, wantedError := []api.Rat{}, api.OK
	for _, w := range wantedWeights {
		weight, e := rat(w)
		wantedTexts, wantedError = append(wantedTexts, weight), max(wantedError, e)
	}
	if wantedError != api.OK {
		wantedFirst, wantedTexts = 0, nil
	}
	first, weights, e := wave.Weights(samples, text(at))
	sameList(t, "Weights", weights, e, wantedTexts, wantedError)
	same(t, "the first index", first, e, wantedFirst, wantedError)
	wanted, wantedError := rat(cubicValue(samples, at))
	value, e := wave.Cubic(samples, text(at))
	same(t, "Cubic", value, e, wanted, wantedError)
	wantedSpan, wantedError := around(cubicValue(samples, at), cubicRadius(n, at, fourth, noise))
	values, e := wave.CubicSpan(samples, text(at), text(fourth), text(noise))
	same(t, "CubicSpan", values, e, wantedSpan, wantedError)
}

// P5.2: random records at random times.
func TestCubic(t *testing.T) {
	r := source(10)
	for range 1000 {
		samples := anyRecord(r, 4+r.Intn(9))
		checkCubic(t, samples, anyTime(r, len(samples)), anyBound(r), anyBound(r))
	}
}

// P5.2: all integer times, and those between them, of the shortest records and of the longest one.
func TestCubicTimes(t *testing.T) {
	r := source(11)
	for _, n := range []int{4, 5, 6, 7} {
		samples := anyRecord(r, n)
		samples[n/2] = negativeZero()
		for k := range 2*n - 1 {
			checkCubic(t, samples, big.NewRat(int64(k), 2), integer(5), big.NewRat(1, 3))
		}
	}
	samples := anyRecord(r, 4096)
	for _, at := range []*big.Rat{integer(0), big.NewRat(1, 3), integer(2048), big.NewRat(8187, 2), big.NewRat(8188, 2), big.NewRat(8189, 2), integer(4095)} {
		checkCubic(t, samples, at, integer(5), big.NewRat(1, 3))
	}
}

// P5.2: times and bounds with many digits: the results have too many, or just not.
func TestCubicSizes(t *testing.T) {
	r := source(12)
	errors := map[api.Errno]int{}
	for i := range 40 {
		samples := [][]float32{{0, 1, 2, 3}, {1, 1, 1, 1, 1}, {0, 1, 4, 9}, anyRecord(r, 4)}[i%4]
		at := plus(largeNumber(r, []int{190, 200, 201, 250, 299, 301}[r.Intn(6)]), integer(r.Intn(3)))
		fourth, noise := largeNumber(r, 1+r.Intn(300)), largeNumber(r, 1+r.Intn(300))
		if i%3 == 0 {
			fourth, noise = integer(0), integer(0)
		}
		checkCubic(t, samples, at, fourth, noise)
		_, e := wave.Cubic(samples, text(at))
		errors[e]++
	}
	if errors[api.OK] == 0 || errors[api.ErrLarge] == 0 {
		t.Errorf("the sizes decide nothing: %v", errors)
	}
}

// P5.2: the weights have more digits than a number may have, but the value has not.
func TestCubicOnTheWay(t *testing.T) {
	at := plus(valid("1/1"+zeros(598)), integer(1))
	_, _, e := wave.Weights([]float32{0, 1, 2, 3}, text(at))
	same(t, "Weights", 0, e, 0, api.ErrLarge)
	value, e := wave.Cubic([]float32{0, 1, 2, 3}, text(at))
	same(t, "Cubic", value, e, text(at), api.OK)
	values, e := wave.CubicSpan([]float32{7, 7, 7, 7}, text(at), "0", "0")
	same(t, "CubicSpan", values, e, span("7", "7"), api.OK)
}

// P5.2: the errors of records, their lengths, times and bounds, in their order.
func TestCubicErrors(t *testing.T) {
	check := func(samples []float32, at, fourth, noise api.Rat, wanted api.Errno) {
		t.Helper()
		values, e := wave.CubicSpan(samples, at, fourth, noise)
		same(t, "CubicSpan", values, e, api.Span{}, wanted)
	}
	checkAll := func(samples []float32, at api.Rat, wanted api.Errno) {
		t.Helper()
		first, weights, e := wave.Weights(samples, at)
		sameList(t, "Weights", weights, e, nil, wanted)
		same(t, "the first index", first, e, 0, wanted)
		value, e := wave.Cubic(samples, at)
		same(t, "Cubic", value, e, "", wanted)
		check(samples, at, "x", "-1", wanted)
		check(samples, at, "1", "1", wanted)
	}
	for wanted, records := range badRecords() {
		for _, samples := range records {
			checkAll(samples, "x", wanted)
			checkAll(samples, "0", wanted)
		}
	}
	for n := range 4 {
		for _, at := range []api.Rat{"0", "1", "x", "-1", nines(601)} {
			checkAll(make([]float32, n), at, api.ErrShort)
		}
	}
	for _, n := range []int{4, 5} {
		for _, bad := range badTimes(n) {
			checkAll(exampleRecord()[:n], bad.a, bad.e)
		}
		for _, bad := range notAbove(0) {
			check(exampleRecord()[:n], "1/2", bad.a, "x", bad.e)
			check(exampleRecord()[:n], "1/2", bad.a, "0", bad.e)
			check(exampleRecord()[:n], "1/2", "0", bad.a, bad.e)
		}
	}
}

// checkPoly compares a polynomial with the sum of its powers.
func checkPoly(t *testing.T, coeffs []*big.Rat, at *big.Rat) {
	t.Helper()
	var texts []api.Rat
	total, power := integer(0), integer(1)
	for _, c := range coeffs {
		texts = append(texts, text(c))
		total, power = plus(total, times(c, power)), times(power, at)
	}
	wanted, wantedError := rat(total)
	value, e := wave.Poly(texts, text(at))
	same(t, "Poly", value, e, wanted, wantedError)
}

// P5.2: polynomials with all numbers of coefficients, at any time, also below 0.
func TestPoly(t *testing.T) {
	r := source(13)
	for i := range 600 {
		coeffs := make([]*big.Rat, i%(wave.MaxCoeffs+1))
		for k := range coeffs {
			coeffs[k] = big.NewRat(r.Int63n(41)-20, 1+r.Int63n(9))
		}
		checkPoly(t, coeffs, big.NewRat(r.Int63n(101)-50, 1+r.Int63n(9)))
		checkPoly(t, coeffs, integer(0))
	}
	value, e := wave.Poly(nil, nines(600))
	same(t, "Poly", value, e, "0", api.OK)
	value, e = wave.Poly([]api.Rat{"5/3"}, "0")
	same(t, "Poly", value, e, "5/3", api.OK)
	value, e = wave.Poly([]api.Rat{"0", "1"}, "-1000")
	same(t, "Poly", value, e, "-1000", api.OK)
}

// P5.2: polynomials with large numbers, whose powers cancel or not.
func TestPolySizes(t *testing.T) {
	r := source(14)
	for range 60 {
		coeffs := make([]*big.Rat, r.Intn(6))
		for k := range coeffs {
			coeffs[k] = largeNumber(r, 1+r.Intn(200))
		}
		checkPoly(t, coeffs, largeNumber(r, 1+r.Intn(200)))
	}
	large := valid("1" + zeros(500))
	opposite := new(big.Rat).Neg(large)
	checkPoly(t, []*big.Rat{integer(3), opposite, integer(1)}, large)
	checkPoly(t, []*big.Rat{integer(3), opposite, integer(1)}, opposite)
	checkPoly(t, []*big.Rat{integer(0), valid("-" + nines(600)), integer(1)}, valid(nines(600)))
}

// P5.2: the errors of polynomials, in their order.
func TestPolyErrors(t *testing.T) {
	check := func(coeffs []api.Rat, at api.Rat, wanted api.Errno) {
		t.Helper()
		value, e := wave.Poly(coeffs, at)
		same(t, "Poly", value, e, "", wanted)
	}
	many := make([]api.Rat, 17)
	check(many, "x", api.ErrMany)
	for i := range many {
		many[i] = "1"
	}
	check(many, "0", api.ErrMany)
	for _, bad := range badNumbers() {
		check([]api.Rat{"1", bad.a, "2/4", nines(601)}, "x", bad.e)
		check(append(many[:15:15], bad.a), "0", bad.e)
		check(many[:16], bad.a, bad.e)
		check(nil, bad.a, bad.e)
	}
}

// P5.2: arguments do not change.
func TestCubicChangesNothing(t *testing.T) {
	unchanged(t, []float32{negativeZero(), 3, -2, 5}, func(samples []float32) {
		_, weights, _ := wave.Weights(samples, "1/2")
		clear(weights)
		wave.Cubic(samples, "1/2")
		wave.CubicSpan(samples, "1/2", "1", "1")
	})
	coeffs := []api.Rat{"1", "2"}
	wave.Poly(coeffs, "3")
	sameList(t, "the coefficients", coeffs, api.OK, []api.Rat{"1", "2"}, api.OK)
}
