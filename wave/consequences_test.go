package wave_test

import (
	"math/big"
	"math/rand"
	"slices"
	"testing"

	"strobe/api"
	"strobe/wave"
)

// polynomial returns the values of a polynomial with small integer coefficients at the times 0, 1, .., which are exact as floats,
// and its coefficients.
func polynomial(r *rand.Rand, degree, n int) ([]float32, []api.Rat) {
	coeffs, samples := make([]api.Rat, degree+1), make([]float32, n)
	for power := range coeffs {
		c := r.Intn(15) - 7
		coeffs[power] = text(integer(c))
		for i := range samples {
			x := float32(c)
			for range power {
				x *= float32(i)
			}
			samples[i] += x
		}
	}
	return samples, coeffs
}

// P5.6: samples of a polynomial of a degree of at most 3 are interpolated exactly by the cubic interpolation.
func TestPolynomialsAreExact(t *testing.T) {
	r := source(50)
	for i := range 400 {
		samples, coeffs := polynomial(r, i%4, 4+r.Intn(12))
		at := text(anyTime(r, len(samples)))
		wanted, wantedError := wave.Poly(coeffs, at)
		value, e := wave.Cubic(samples, at)
		same(t, "Cubic", value, e, wanted, wantedError)
	}
}

// P5.6: the values and the areas of a parabola lie in the spans if the bend is at least its second derivative.
func TestParabolasAreEnclosed(t *testing.T) {
	r := source(51)
	for range 400 {
		samples, coeffs := polynomial(r, 2, 2+r.Intn(12))
		bend := new(big.Rat).Abs(times(integer(2), valid(coeffs[2])))
		s := wave.Signal{Bend: text(plus(bend, anyBound(r))), Noise: text(anyBound(r))}
		l := []*big.Rat{anyTime(r, len(samples)), anyTime(r, len(samples))}
		slices.SortFunc(l, (*big.Rat).Cmp)
		at := func(x *big.Rat) *big.Rat {
			value, _ := wave.Poly(coeffs, text(x))
			return valid(value)
		}
		for _, x := range l {
			values, e := wave.LinearSpan(samples, text(x), s)
			if e != api.OK || !contains(values, at(x)) {
				t.Errorf("the value %s at %s is not in %v, %d", at(x), x, values, e)
			}
		}
		areas, e := wave.AreaSpan(samples, text(l[0]), text(l[1]), s)
		if area := integral(l[0], l[1], at); e != api.OK || !contains(areas, area) {
			t.Errorf("the area %s is not in %v, %d", area, areas, e)
		}
		isPossible, e := wave.Possible(samples, s)
		same(t, "Possible", isPossible, e, true, api.OK)
	}
}

// P5.6: a parabola and a cubic have the level within each passage: they are on its two sides at the ends.
func TestPassagesContainCrossings(t *testing.T) {
	r := source(52)
	found := 0
	for range 600 {
		n := 3 + r.Intn(6)
		samples, coeffs := polynomial(r, 3, n)
		// The second derivative is linear: it is greatest at one end.
		second := func(x int) *big.Rat {
			return new(big.Rat).Abs(plus(times(integer(2), valid(coeffs[2])), times(integer(6*x), valid(coeffs[3]))))
		}
		bend := second(0)
		if second(n-1).Cmp(bend) > 0 {
			bend = second(n - 1)
		}
		level := plus(exact(samples[r.Intn(n)]), big.NewRat(r.Int63n(101)-50, 3))
		passages, e := wave.Passages(samples, text(level), wave.Signal{Bend: text(bend), Noise: "0"})
		same(t, "Passages", 0, e, 0, api.OK)
		found += len(passages)
		for _, p := range passages {
			first, _ := wave.Poly(coeffs, p.Time.Low)
			last, _ := wave.Poly(coeffs, p.Time.High)
			before, after := valid(first).Cmp(level), valid(last).Cmp(level)
			if !p.Up {
				before, after = after, before
			}
			if before > 0 || after < 0 {
				t.Errorf("%v passes %s within %v, but is %s and %s at its ends", coeffs, level, p, first, last)
			}
		}
	}
	if found < 300 {
		t.Errorf("only %d passages", found)
	}
}

// P5.6: the weights add up to 1, and at an integer time the sample there has the weight 1.
func TestWeightsAddUp(t *testing.T) {
	r := source(53)
	for range 400 {
		n := 4 + r.Intn(20)
		at := anyTime(r, n)
		first, weights, e := wave.Weights(make([]float32, n), text(at))
		total := integer(0)
		for k, w := range weights {
			total = plus(total, valid(w))
			if at.IsInt() && (w == "1") != (at.Cmp(integer(first+k)) == 0) {
				t.Errorf("the sample %d has the weight %s at %s", first+k, w, at)
			}
		}
		same(t, "the sum of the weights", text(total), e, "1", api.OK)
	}
}

// P5.6: crossings go upwards and downwards in turn, and each of them is in a passage of bounds that are 0, or at a sample that has the level.
func TestCrossingsInTurn(t *testing.T) {
	r := source(54)
	for range 400 {
		samples := anyRecord(r, 2+r.Intn(40))
		level := levels(samples)[r.Intn(5)]
		crossings, e := wave.Crossings(samples, text(level))
		passages, e2 := wave.Passages(samples, text(level), wave.Signal{Bend: "0", Noise: "0"})
		same(t, "the errors", 0, max(e, e2), 0, api.OK)
		for i, c := range crossings {
			if i > 0 && (c.Up == crossings[i-1].Up || valid(c.At).Cmp(valid(crossings[i-1].At)) < 0) {
				t.Errorf("the crossing %v comes after %v", c, crossings[i-1])
			}
			at := valid(c.At)
			isIn := slices.ContainsFunc(passages, func(p wave.Passage) bool { return p.Up == c.Up && contains(p.Time, at) })
			if !isIn && !(at.IsInt() && exact(samples[whole(at)]).Cmp(level) == 0) {
				t.Errorf("the crossing %v is in no passage", c)
			}
		}
	}
}

// P5.6: passages go upwards and downwards in turn, and do not go back in time.
func TestPassagesInTurn(t *testing.T) {
	r := source(55)
	for range 400 {
		samples := anyRecord(r, 2+r.Intn(40))
		s := wave.Signal{Bend: text(anyBound(r)), Noise: text(anyBound(r))}
		passages, e := wave.Passages(samples, text(levels(samples)[r.Intn(5)]), s)
		same(t, "Passages", 0, e, 0, api.OK)
		for i, p := range passages {
			if valid(p.Time.Low).Cmp(valid(p.Time.High)) > 0 || i > 0 && (p.Up == passages[i-1].Up || valid(p.Time.Low).Cmp(valid(passages[i-1].Time.High)) < 0) {
				t.Errorf("the passage %d of %v is wrong", i, passages)
			}
		}
	}
}

// P5.6: areas add up.
func TestAreasAddUp(t *testing.T) {
	r := source(56)
	for range 300 {
		samples := anyRecord(r, 1+r.Intn(20))
		l := []*big.Rat{anyTime(r, len(samples)), anyTime(r, len(samples)), anyTime(r, len(samples))}
		slices.SortFunc(l, (*big.Rat).Cmp)
		area := func(i, j int) *big.Rat {
			a, e := wave.Area(samples, text(l[i]), text(l[j]))
			same(t, "Area", 0, e, 0, api.OK)
			return valid(a)
		}
		same(t, "the sum of areas", text(plus(area(0, 1), area(1, 2))), api.OK, text(area(0, 2)), api.OK)
	}
}

// checkNested reports a span that does not contain another one, which has smaller bounds.
func checkNested(t *testing.T, what string, narrow, wide func() (api.Span, api.Errno)) {
	t.Helper()
	inner, e := narrow()
	outer, e2 := wide()
	if max(e, e2) != api.OK || !within(inner, outer) {
		t.Errorf("%s: %v, %d is not within %v, %d", what, inner, e, outer, e2)
	}
}

// P5.6: a greater noise or bend never makes a span narrower.
func TestSpansGrow(t *testing.T) {
	r := source(57)
	for range 200 {
		samples := anyRecord(r, 4+r.Intn(9))
		time := big.NewRat(r.Int63n(int64(len(samples)-1)*60+1), 60)
		at, last := text(time), text(integer(len(samples)-1))
		bend, noise, peak := anyBound(r), anyBound(r), anyBound(r)
		for _, more := range [][2]*big.Rat{{anyBound(r), integer(0)}, {integer(0), anyBound(r)}, {big.NewRat(1, 1e15), big.NewRat(1, 1e15)}} {
			a := wave.Signal{Bend: text(bend), Noise: text(noise)}
			b := wave.Signal{Bend: text(plus(bend, more[0])), Noise: text(plus(noise, more[1]))}
			checkNested(t, "LinearSpan", func() (api.Span, api.Errno) { return wave.LinearSpan(samples, at, a) }, func() (api.Span, api.Errno) { return wave.LinearSpan(samples, at, b) })
			checkNested(t, "AreaSpan", func() (api.Span, api.Errno) { return wave.AreaSpan(samples, at, last, a) }, func() (api.Span, api.Errno) { return wave.AreaSpan(samples, at, last, b) })
			checkNested(t, "CubicSpan", func() (api.Span, api.Errno) { return wave.CubicSpan(samples, at, a.Bend, a.Noise) }, func() (api.Span, api.Errno) { return wave.CubicSpan(samples, at, b.Bend, b.Noise) })
			checkNested(t, "SincSpan", func() (api.Span, api.Errno) {
				return wave.SincSpan(samples, at, wave.Band{Guard: "2/5", Peak: text(peak), Noise: a.Noise})
			}, func() (api.Span, api.Errno) {
				return wave.SincSpan(samples, at, wave.Band{Guard: "2/5", Peak: text(plus(peak, more[0])), Noise: b.Noise})
			})
		}
	}
}

// P5.6: the values of a sine whose frequency is within the band lie in the span.
func TestSinesAreEnclosed(t *testing.T) {
	r := source(58)
	for i := range 60 {
		guard := big.NewRat(1+r.Int63n(9), 10)
		// The greatest frequency of the band is (1 - g) / 2.
		frequency := times(minus(integer(1), guard), big.NewRat(r.Int63n(9)+1, 18))
		if i%3 == 0 {
			frequency = times(minus(integer(1), guard), big.NewRat(1, 2))
		}
		phase := big.NewRat(r.Int63n(100), 100)
		value := func(x *big.Rat) *big.Rat {
			exactly, _ := sine(plus(times(frequency, x), phase)).Rat(nil)
			return exactly
		}
		samples := make([]float32, 1+r.Intn(80))
		noise := integer(0)
		for k := range samples {
			x := value(integer(k))
			samples[k], _ = x.Float32()
			if difference := minus(x, exact(samples[k])); difference.Abs(difference).Cmp(noise) > 0 {
				noise = difference
			}
		}
		// The noise has no short form: a number with few digits that is at least as large will do.
		bound := plus(roundedDown(noise), big.NewRat(1, 1e12))
		b := wave.Band{Guard: text(guard), Peak: "1", Noise: text(bound)}
		at := big.NewRat(r.Int63n(int64(len(samples)-1)*1000+1), 1000)
		values, e := wave.SincSpan(samples, text(at), b)
		if e != api.OK || !contains(values, value(at)) {
			t.Errorf("a sine with the frequency %s is not in %v, %d at %s", frequency, values, e, at)
		}
	}
}

// P5.6: in the middle of a long record the span of a sine is narrow.
func TestSincSpanIsNarrow(t *testing.T) {
	samples := make([]float32, 400)
	for k := range samples {
		exactly, _ := sine(big.NewRat(int64(k), 5)).Rat(nil)
		samples[k], _ = exactly.Float32()
	}
	values, e := wave.SincSpan(samples, "399/2", wave.Band{Guard: "1/2", Peak: "1", Noise: "1/10000000"})
	if width := minus(valid(values.High), valid(values.Low)); e != api.OK || width.Cmp(big.NewRat(1, 10000)) > 0 {
		t.Errorf("the span has the width %s, %d", width, e)
	}
}

// P5.6: resampling at the times of the samples returns the samples; refined points are those of the linear interpolation.
func TestResampledAtSamples(t *testing.T) {
	r := source(59)
	for range 100 {
		samples := anyRecord(r, 1+r.Intn(30))
		got, e := wave.Resampled(samples, "0", "1", len(samples))
		wanted := make([]float32, len(samples))
		for i, f := range samples {
			wanted[i] = f + 0
		}
		sameRecord(t, "Resampled", got, e, wanted, api.OK)
		n := 1 + r.Intn(9)
		points, e := wave.Refined(samples, n)
		for k, p := range points {
			value, e2 := wave.Linear(samples, text(big.NewRat(int64(k), int64(n))))
			same(t, "a point", p, e, value, e2)
		}
	}
}
