package spectrum_test

import (
	"math"
	"math/big"
	"slices"
	"testing"

	"strobe/api"
	"strobe/number"
	"strobe/spectrum"
)

// meets reports whether two intervals have a number in common.
func (a interval) meets(b interval) bool {
	return a.low.Cmp(b.high) <= 0 && b.low.Cmp(a.high) <= 0
}

// overlap reports an interval that has no number in common with another one.
func overlap(t *testing.T, what string, a, b interval) {
	t.Helper()
	if !a.meets(b) {
		t.Errorf("%s: %v to %v and %v to %v have no number in common", what, a.low, a.high, b.low, b.high)
	}
}

// binOf returns a bin that has no error.
func binOf(t *testing.T, values []api.Rat, k, decimals int) [2]interval {
	t.Helper()
	parts, e := spectrum.Bin(values, k, decimals)
	if e != api.OK {
		t.Fatalf("Bin: got the error %d", e)
	}
	return [2]interval{intervalOf(parts[0]), intervalOf(parts[1])}
}

// powerOf returns a power that has no error.
func powerOf(t *testing.T, values []api.Rat, k, decimals int) interval {
	t.Helper()
	power, e := spectrum.Power(values, k, decimals)
	if e != api.OK {
		t.Fatalf("Power: got the error %d", e)
	}
	return intervalOf(power)
}

// byInterval returns the product of two intervals.
func byInterval(a, b interval) interval {
	return hull(times(a.low, b.low), times(a.low, b.high), times(a.high, b.low), times(a.high, b.high))
}

// complexProduct returns the product of two complex numbers.
func complexProduct(a, b [2]interval) [2]interval {
	return [2]interval{byInterval(a[0], b[0]).minus(byInterval(a[1], b[1])), byInterval(a[0], b[1]).plus(byInterval(a[1], b[0]))}
}

// P7.6: the powers of all bins, added, enclose n times the energy.
func TestParseval(t *testing.T) {
	r := source(60)
	for n := 1; n <= 64; n += 1 + r.Intn(5) {
		values, decimals := anyValues(r, n), 1+r.Intn(12)
		energy, _ := spectrum.Energy(values)
		sum := interval{integer(0), integer(0)}
		for k := range n {
			sum = sum.plus(powerOf(t, values, k, decimals))
		}
		if !sum.contains(times(integer(n), valid(energy))) {
			t.Errorf("the powers of %v with %d decimals do not enclose %d times %s", values, decimals, n, energy)
		}
	}
}

// P7.6: the bin n - k is the conjugate of the bin k.
func TestConjugateBins(t *testing.T) {
	r := source(61)
	for n := 1; n <= 64; n += 1 + r.Intn(5) {
		values, decimals := anyValues(r, n), 1+r.Intn(12)
		for range 3 {
			k := r.Intn(n)
			a, b := binOf(t, values, k, decimals), binOf(t, values, (n-k)%n, decimals)
			if a[0].low.Cmp(b[0].low) != 0 || a[0].high.Cmp(b[0].high) != 0 {
				t.Errorf("the real parts of bin %d and %d differ", k, n-k)
			}
			if plus(a[1].low, b[1].high).Sign() != 0 || plus(a[1].high, b[1].low).Sign() != 0 {
				t.Errorf("the imaginary parts of bin %d and %d are not opposite", k, n-k)
			}
		}
	}
}

// P7.6: a rotation does not change the powers, and multiplies a bin by a turn.
func TestRotatedBins(t *testing.T) {
	r := source(62)
	for n := 1; n <= 64; n += 1 + r.Intn(5) {
		values, decimals, by := anyValues(r, n), 3+r.Intn(10), r.Intn(3*n)-n
		rotated, e := spectrum.Shift(values, by)
		if e != api.OK {
			t.Fatalf("Shift: got the error %d", e)
		}
		for range 3 {
			k := r.Intn(n)
			overlap(t, "the powers", powerOf(t, values, k, decimals), powerOf(t, rotated, k, decimals))
			turn := big.NewRat(int64(-k*by), int64(n))
			wanted := complexProduct(binOf(t, values, k, decimals), [2]interval{turned(number.Cos, turn, decimals), turned(number.Sin, turn, decimals)})
			got := binOf(t, rotated, k, decimals)
			overlap(t, "the real parts", got[0], wanted[0])
			overlap(t, "the imaginary parts", got[1], wanted[1])
		}
	}
}

// P7.6: the bins of a convolution are the products of the bins.
func TestBinsOfConvolutions(t *testing.T) {
	r := source(63)
	for n := 1; n <= 64; n += 1 + r.Intn(5) {
		a, b, decimals := anyValues(r, n), anyValues(r, n), 3+r.Intn(10)
		both, e := spectrum.Cyclic(a, b)
		if e != api.OK {
			t.Fatalf("Cyclic: got the error %d", e)
		}
		for range 3 {
			k := r.Intn(n)
			wanted := complexProduct(binOf(t, a, k, decimals), binOf(t, b, k, decimals))
			got := binOf(t, both, k, decimals)
			overlap(t, "the real parts", got[0], wanted[0])
			overlap(t, "the imaginary parts", got[1], wanted[1])
		}
	}
}

// P7.6: the inverse of a spectrum is close to the samples.
func TestInverseOfSpectrum(t *testing.T) {
	r := source(64)
	for n := 1; n <= 64; n++ {
		l := anySamples(r, n)
		c, _ := spectrum.Forward(l)
		v, e := spectrum.Back(c)
		// Each bin may differ by the tolerance in both parts, and the inverse by the tolerance of the bins.
		bound := plus(times(integer(3), toleranceOf(l)), toleranceOf(partsOf(c)))
		if e == api.ErrLarge {
			continue
		}
		for j, x := range v {
			if magnitude(minus(exact(real(x)), exact(l[j]))).Cmp(bound) > 0 || magnitude(exact(imag(x))).Cmp(bound) > 0 {
				t.Errorf("the inverse of the spectrum of %v has %v at %d", l, x, j)
			}
		}
	}
}

// P7.6: bins of exact samples are close to their spectrum.
func TestSpectrumOfBins(t *testing.T) {
	r := source(65)
	for n := 1; n <= 64; n += 1 + r.Intn(5) {
		l := anySamples(r, n)
		var values []api.Rat
		for _, f := range l {
			values = append(values, text(exact(f)))
		}
		c, _ := spectrum.Forward(l)
		for k, x := range c {
			bin := binOf(t, values, k, 12)
			for p, f := range []float32{real(x), imag(x)} {
				if end := bin[p].low; magnitude(minus(end, exact(f))).Cmp(toleranceOf(l)) > 0 {
					t.Errorf("the bin %d of %v is not %v", k, l, x)
				}
			}
		}
	}
}

// P7.6: the mean power is not below the power of the mean.
func TestMeanPowerAndPowerOfMean(t *testing.T) {
	r := source(66)
	for n := 1; n <= 64; n += 1 + r.Intn(7) {
		records, decimals := anyRecords(r, 1+r.Intn(8), n), 1+r.Intn(12)
		mean, e := spectrum.Mean(records)
		if e != api.OK {
			t.Fatalf("Mean: got the error %d", e)
		}
		k := r.Intn(n)
		power, e := spectrum.MeanPower(records, k, decimals)
		if e != api.OK || valid(power.High).Cmp(powerOf(t, mean, k, decimals).low) < 0 {
			t.Errorf("the mean power %v, %d is below the power of the mean", power, e)
		}
	}
}

// P7.6: the delay of rotated values is the rotation, if no other rotation has the same values.
func TestDelayOfRotatedValues(t *testing.T) {
	r := source(67)
	found := 0
	for range 300 {
		n := 1 + r.Intn(30)
		values, by := anyValues(r, n), r.Intn(n)
		if n > 2 && r.Intn(5) == 0 {
			values = slices.Repeat(values[:1], n)
		}
		rotated, _ := spectrum.Shift(values, by)
		wanted := by
		for s := range by {
			if other, _ := spectrum.Shift(values, s); slices.Equal(other, rotated) {
				wanted = s
				break
			}
		}
		if wanted != by {
			found++
		}
		delay, e := spectrum.Delay(values, rotated)
		same(t, "Delay", delay, e, wanted, api.OK)
	}
	if found < 20 {
		t.Errorf("only %d rotations that the values do not tell", found)
	}
}

// P7.6: the magnitude of a bin of a tone is not above the leakage bound.
func TestLeakageOfTones(t *testing.T) {
	r := source(68)
	found := 0
	for range 150 {
		n := 1 + r.Intn(64)
		cycles, phase, k := anyNumber(r), anyNumber(r), r.Intn(n)
		bound, e := spectrum.Leakage(n, text(cycles), k, 6)
		if e != api.OK {
			continue
		}
		tone, e := spectrum.Tone(n, text(cycles), text(phase), 12)
		if e != api.OK {
			t.Fatalf("Tone: got the error %d", e)
		}
		var samples []api.Rat
		for _, s := range tone {
			samples = append(samples, s.Low)
		}
		// The samples are at most 10^-12 below the tone: their bin differs by less than 10^-10.
		limit := plus(valid(bound.High), big.NewRat(1, 10000000000))
		if powerOf(t, samples, k, 12).low.Cmp(times(limit, limit)) > 0 {
			t.Errorf("the bin %d of %d points of %s cycles is above %v", k, n, cycles.RatString(), bound)
		}
		found++
	}
	if found < 80 {
		t.Errorf("only %d bounds", found)
	}
}

// P7.6: with more decimals the enclosures lie within those with fewer.
func TestNestedBins(t *testing.T) {
	r := source(69)
	for range 30 {
		values := anyValues(r, 1+r.Intn(20))
		k := r.Intn(len(values))
		for decimals := 1; decimals < 12; decimals++ {
			wide, narrow := binOf(t, values, k, decimals), binOf(t, values, k, decimals+1)
			for p := range wide {
				if !wide[p].contains(narrow[p].low) || !wide[p].contains(narrow[p].high) {
					t.Errorf("the enclosure with %d decimals is not within that with %d", decimals+1, decimals)
				}
			}
		}
	}
}

// P1: no function panics, whatever its arguments are.
func TestArbitraryArguments(t *testing.T) {
	r := source(70)
	rat := func() api.Rat {
		return []api.Rat{"", "x", "0", "1", "-1/2", "7/3", nines(600), "1/" + nines(600), nines(601), "1/0", api.Rat([]byte{byte(r.Intn(256))})}[r.Intn(11)]
	}
	list := func() []api.Rat {
		l := make([]api.Rat, []int{0, 1, 2, 3, 3, 8, 65}[r.Intn(7)])
		good := r.Intn(3) > 0
		for i := range l {
			l[i] = "-3/2"
			if !good {
				l[i] = rat()
			}
		}
		return l
	}
	lists := func() [][]api.Rat {
		l := make([][]api.Rat, []int{0, 1, 2, 3, 33}[r.Intn(5)])
		for i := range l {
			l[i] = list()
		}
		return l
	}
	float := func() float32 {
		return append(notFinite(), negativeZero(), math.MaxFloat32, power(119), power(-149), 1, float32(r.NormFloat64()))[r.Intn(10)]
	}
	numbers := func() []complex64 {
		c := make([]complex64, []int{0, 1, 2, 3, 65}[r.Intn(5)])
		for i := range c {
			c[i] = complex(float(), float())
		}
		return c
	}
	count := func() int { return append(far(), 0, 1, 2, 3, 8, 12, 64)[r.Intn(12)] }
	for range 10000 {
		kind := append(kinds(), "", "x")[r.Intn(5)]
		spectrum.Window(kind, count())
		spectrum.Weighted(list(), kind)
		spectrum.Energy(list())
		spectrum.Shift(list(), count())
		spectrum.Bin(list(), count(), count())
		spectrum.Power(list(), count(), count())
		spectrum.Peak(list(), count())
		samples := make([]float32, r.Intn(4))
		for i := range samples {
			samples[i] = float()
		}
		spectrum.Forward(samples)
		spectrum.CheckForward(samples, numbers())
		spectrum.Back(numbers())
		spectrum.CheckBack(numbers(), numbers())
		spectrum.Mean(lists())
		spectrum.MeanPower(lists(), count(), count())
		spectrum.Cyclic(list(), list())
		spectrum.Cross(list(), list())
		spectrum.Delay(list(), list())
		spectrum.Tone(count(), rat(), rat(), count())
		spectrum.Leakage(count(), rat(), count(), count())
	}
}
