package wave_test

import (
	"math/big"
	"testing"

	"strobe/api"
	"strobe/wave"
)

// precision is the number of bits of reference sines.
const precision = 300

// circle is pi, which the reference reduces angles with.
const circle = "3.14159265358979323846264338327950288419716939937510582097494459230781640628620899862803482534211706798214808651328230664709384460955058223172535940812848111"

// sine returns the sine of a turn, nearly: the sum of its series.
func sine(turn *big.Rat) *big.Float {
	part := minus(turn, integer(whole(turn)))
	angle := new(big.Float).SetPrec(precision).SetRat(part)
	pi, _, _ := big.ParseFloat(circle, 10, precision, big.ToNearestEven)
	angle.Mul(angle, pi).Mul(angle, big.NewFloat(2))
	square := new(big.Float).Mul(angle, angle)
	total, term := new(big.Float).SetPrec(precision), angle
	for k := int64(1); k < 200; k += 2 {
		total.Add(total, term)
		term = new(big.Float).Mul(term, square)
		term.Quo(term, new(big.Float).SetInt64(-(k+1)*(k+2)))
	}
	return total
}

// decimals returns the span of a sine with 12 decimals.
func decimals(turn *big.Rat) [2]*big.Rat {
	value := sine(turn)
	for _, half := range []int64{-2, -1, 0, 1, 2} {
		distance := new(big.Float).Sub(value, new(big.Float).SetRat(big.NewRat(half, 2)))
		if distance.Abs(distance).Cmp(big.NewFloat(1e-60)) < 0 {
			return [2]*big.Rat{big.NewRat(half, 2), big.NewRat(half, 2)}
		}
	}
	exactly, _ := value.Rat(nil)
	low := roundedDown(exactly)
	return [2]*big.Rat{low, plus(low, big.NewRat(1, 1e12))}
}

// roundedDown returns the greatest multiple of 10^-12 that is not above a number.
func roundedDown(x *big.Rat) *big.Rat {
	scaled := times(x, big.NewRat(1e12, 1))
	return new(big.Rat).SetFrac(new(big.Int).Div(scaled.Num(), scaled.Denom()), big.NewInt(1e12))
}

// hull returns the least interval that contains what an operation makes of the ends of two intervals.
func hull(a, b [2]*big.Rat, operation func(x, y *big.Rat) *big.Rat) [2]*big.Rat {
	var l [2]*big.Rat
	for i := range 4 {
		x := operation(a[i/2], b[i%2])
		if l[0] == nil || x.Cmp(l[0]) < 0 {
			l[0] = x
		}
		if l[1] == nil || x.Cmp(l[1]) > 0 {
			l[1] = x
		}
	}
	return l
}

// referenceKernel returns the computed kernel at x, which is not 0.
func referenceKernel(x, guard *big.Rat) [2]*big.Rat {
	pi := [2]*big.Rat{big.NewRat(3141592653589, 1e12), big.NewRat(3141592653590, 1e12)}
	quotient := func(turn, scale *big.Rat) [2]*big.Rat {
		return hull(decimals(turn), hull(pi, [2]*big.Rat{scale, scale}, times), over)
	}
	a := quotient(over(x, integer(2)), x)
	b := quotient(over(times(guard, x), integer(4)), over(times(guard, x), integer(2)))
	return hull(a, hull(b, b, times), times)
}

// referenceSinc returns the ends of the span of a band-limited signal.
func referenceSinc(samples []float32, at *big.Rat, guard, peak, noise *big.Rat) (*big.Rat, *big.Rat) {
	if at.IsInt() {
		s := exact(samples[whole(at)])
		return minus(s, noise), plus(s, noise)
	}
	low, high := integer(0), integer(0)
	for k, f := range samples {
		h := referenceKernel(minus(at, integer(k)), guard)
		product := hull(h, [2]*big.Rat{minus(exact(f), noise), plus(exact(f), noise)}, times)
		low = plus(low, roundedDown(product[0]))
		high = minus(high, roundedDown(new(big.Rat).Neg(product[1])))
	}
	tail := integer(0)
	for _, c := range []*big.Rat{plus(at, integer(1)), minus(integer(len(samples)), at)} {
		square := times(c, c)
		tail = plus(tail, plus(over(integer(1), times(square, c)), over(integer(1), times(integer(2), square))))
	}
	tail = times(tail, over(times(peak, integer(4)), times(integer(31), times(guard, guard))))
	return minus(low, tail), plus(high, tail)
}

// checkSinc compares a span with the definition.
func checkSinc(t *testing.T, samples []float32, at, guard, peak, noise *big.Rat) {
	t.Helper()
	low, high := referenceSinc(samples, at, guard, peak, noise)
	a, errA := rat(low)
	b, errB := rat(high)
	wanted, wantedError := span(a, b), max(errA, errB)
	if wantedError != api.OK {
		wanted = api.Span{}
	}
	got, e := wave.SincSpan(samples, text(at), wave.Band{Guard: text(guard), Peak: text(peak), Noise: text(noise)})
	same(t, "SincSpan "+at.RatString()+" "+guard.RatString(), got, e, wanted, wantedError)
}

// P5.3: the errors of bands, and their order.
func TestCheckBand(t *testing.T) {
	for _, b := range []wave.Band{{"1/2", "0", "0"}, {"1/" + nines(600), "1/7", nines(600)}, {nines(599) + "/1" + zeros(599), nines(600), "1/3"}} {
		same(t, "CheckBand", b, wave.CheckBand(b), b, api.OK)
	}
	for b, wanted := range badBands() {
		same(t, "CheckBand", b, wave.CheckBand(b), b, wanted)
	}
	same(t, "CheckBand", 0, wave.CheckBand(wave.Band{}), 0, api.ErrForm)
}

// badBands returns bands with an error.
func badBands() map[wave.Band]api.Errno {
	bands := map[wave.Band]api.Errno{}
	guards := append(notAbove(1), badNumber{"1", api.ErrRange}, badNumber{"3/2", api.ErrRange}, badNumber{nines(600), api.ErrRange}, badNumber{"1" + zeros(599) + "/" + nines(599), api.ErrRange})
	for _, bad := range guards {
		bands[wave.Band{Guard: bad.a, Peak: "-1", Noise: "x"}] = bad.e
		bands[wave.Band{Guard: bad.a, Peak: "x", Noise: "-1"}] = bad.e
		bands[wave.Band{Guard: bad.a, Peak: "1", Noise: "1"}] = bad.e
	}
	for _, bad := range notAbove(0) {
		bands[wave.Band{Guard: "1/3", Peak: bad.a, Noise: "-1"}] = bad.e
		bands[wave.Band{Guard: "1/3", Peak: bad.a, Noise: "x"}] = bad.e
		bands[wave.Band{Guard: "1/3", Peak: bad.a, Noise: "1"}] = bad.e
		bands[wave.Band{Guard: "1/3", Peak: "0", Noise: bad.a}] = bad.e
	}
	return bands
}

// P5.3: the examples of the chapter.
func TestSincExamples(t *testing.T) {
	for _, row := range []struct {
		samples []float32
		at      api.Rat
		band    wave.Band
		wanted  api.Span
	}{
		{[]float32{0, 1, 0}, "1", wave.Band{Guard: "1/2", Peak: "1", Noise: "1/8"}, span("7/8", "9/8")},
		{[]float32{0, 0}, "1/2", wave.Band{Guard: "1/2", Peak: "0", Noise: "0"}, span("0", "0")},
		{[]float32{0, 0}, "1/2", wave.Band{Guard: "1/2", Peak: "31", Noise: "0"}, span("-448/27", "448/27")},
		{[]float32{negativeZero()}, "0", wave.Band{Guard: "1/2", Peak: "31", Noise: "0"}, span("0", "0")},
	} {
		got, e := wave.SincSpan(row.samples, row.at, row.band)
		same(t, "SincSpan", got, e, row.wanted, api.OK)
	}
}

// P5.3: random records, times and bands.
func TestSincSpan(t *testing.T) {
	r := source(20)
	for i := range 300 {
		samples := anyRecord(r, 1+r.Intn(12))
		bottom := 1 + r.Int63n([]int64{6, 1000}[i%2])
		at := big.NewRat(r.Int63n(bottom*int64(len(samples)-1)+1), bottom)
		bottom = 2 + r.Int63n([]int64{5, 999}[i%2])
		guard := big.NewRat(1+r.Int63n(bottom-1), bottom)
		checkSinc(t, samples, at, guard, anyBound(r), anyBound(r))
	}
}

// P5.3: the largest denominators, and times next to samples, where a kernel has the value of a sine of 0, 1/2 or 1, too.
func TestSincSpanAtEdges(t *testing.T) {
	samples := []float32{1, -2, negativeZero(), 3.5, 1e30, -1e-40}
	for _, at := range []*big.Rat{big.NewRat(1, 1000), big.NewRat(4999, 1000), big.NewRat(999, 1000), big.NewRat(1001, 1000), big.NewRat(1, 3), big.NewRat(5, 2), big.NewRat(7, 3), big.NewRat(2, 1), big.NewRat(5, 1)} {
		for _, guard := range []*big.Rat{big.NewRat(1, 1000), big.NewRat(999, 1000), big.NewRat(1, 2), big.NewRat(2, 3), big.NewRat(4, 5)} {
			for _, noise := range []*big.Rat{integer(0), big.NewRat(1, 7), big.NewRat(3, 1e12)} {
				checkSinc(t, samples, at, guard, big.NewRat(7, 3), noise)
			}
		}
	}
}

// P5.3: the longest record.
func TestLongSincSpan(t *testing.T) {
	r := source(21)
	samples := anyRecord(r, 4096)
	checkSinc(t, samples, big.NewRat(2047*7+3, 7), big.NewRat(1, 5), integer(1), big.NewRat(1, 1e6))
	checkSinc(t, samples, integer(4095), big.NewRat(1, 5), integer(1), big.NewRat(1, 1e6))
}

// P5.3: peaks and noise with the most digits: only the ends of the result count, and they may have few digits.
func TestSincSpanSizes(t *testing.T) {
	r := source(22)
	errors := map[api.Errno]int{}
	samples := []float32{0, 1, 2}
	for range 60 {
		digits := []int{500, 580, 595, 600}
		peak, noise := largeNumber(r, digits[r.Intn(4)]), largeNumber(r, digits[r.Intn(4)])
		if r.Intn(2) == 0 {
			peak = integer(3)
		}
		guard := big.NewRat(1+r.Int63n(999), 1000)
		at := big.NewRat(r.Int63n(2001), 1000)
		checkSinc(t, samples, at, guard, peak, noise)
		checkSinc(t, samples, integer(r.Intn(3)), guard, peak, noise)
		_, e := wave.SincSpan(samples, text(at), wave.Band{Guard: text(guard), Peak: text(peak), Noise: text(noise)})
		errors[e]++
	}
	if errors[api.OK] == 0 || errors[api.ErrLarge] == 0 {
		t.Errorf("the sizes decide nothing: %v", errors)
	}
}

// P5.3: the errors of records, times and bands, in their order, and denominators that are too large.
func TestSincSpanErrors(t *testing.T) {
	check := func(samples []float32, at api.Rat, b wave.Band, wanted api.Errno) {
		t.Helper()
		got, e := wave.SincSpan(samples, at, b)
		same(t, "SincSpan", got, e, api.Span{}, wanted)
	}
	good, bad, fine := wave.Band{Guard: "1/2", Peak: "1", Noise: "1"}, wave.Band{Guard: "x", Peak: "-1", Noise: "-1"}, wave.Band{Guard: "1/1001", Peak: "1", Noise: "1"}
	for wanted, records := range badRecords() {
		for _, samples := range records {
			for _, b := range []wave.Band{good, bad, fine} {
				check(samples, "x", b, wanted)
				check(samples, "1/1001", b, wanted)
			}
		}
	}
	for _, wrong := range badTimes(5) {
		for _, b := range []wave.Band{good, bad, fine} {
			check(exampleRecord(), wrong.a, b, wrong.e)
		}
	}
	check(nil, "0", good, api.ErrRange)
	for b, wanted := range badBands() {
		check(exampleRecord(), "1", b, wanted)
		check(exampleRecord(), "1/1001", b, wanted)
	}
	for _, at := range []api.Rat{"1/1001", "1001/1002", "1/" + nines(600)} {
		check(exampleRecord(), at, good, api.ErrLarge)
		check(exampleRecord(), at, fine, api.ErrLarge)
	}
	for _, guard := range []api.Rat{"1/1001", "1000/1001", "1/" + nines(600)} {
		check(exampleRecord(), "1", wave.Band{Guard: guard, Peak: "1", Noise: "1"}, api.ErrLarge)
		check(exampleRecord(), "1/2", wave.Band{Guard: guard, Peak: "1", Noise: "1"}, api.ErrLarge)
	}
	unchanged(t, exampleRecord(), func(samples []float32) { wave.SincSpan(samples, "1/2", good) })
}
