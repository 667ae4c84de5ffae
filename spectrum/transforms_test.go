package spectrum_test

import (
	"math"
	"math/big"
	"math/rand"
	"slices"
	"testing"

	"strobe/api"
	"strobe/spectrum"
)

// anySamples returns n samples: small integers, fractions, or floats of all sizes whose sum is below the limit.
func anySamples(r *rand.Rand, n int) []float32 {
	kind := r.Intn(4)
	l := make([]float32, n)
	for i := range l {
		switch kind {
		case 0:
			l[i] = float32(r.Intn(9) - 4)
		case 1:
			l[i] = float32(r.NormFloat64())
		case 2:
			l[i] = float32(math.Ldexp(r.NormFloat64(), r.Intn(250)-150))
		default:
			// Floats without an exponent are multiples of the least float.
			l[i] = math.Float32frombits(uint32(r.Intn(1 << 23)))
		}
		if r.Intn(9) == 0 {
			l[i] = negativeZero()
		}
	}
	return l
}

// anyComplex returns n complex numbers of these kinds.
func anyComplex(r *rand.Rand, n int) []complex64 {
	floats := anySamples(r, 2*n)
	c := make([]complex64, n)
	for i := range c {
		c[i] = complex(floats[i], floats[n+i])
	}
	return c
}

// hasNegativeZero reports whether a part of complex numbers is -0.
func hasNegativeZero(c []complex64) bool {
	return slices.ContainsFunc(partsOf(c), func(f float32) bool { return math.Float32bits(f) == 1<<31 })
}

// sameError reports an error that differs from the expected one.
func sameError(t *testing.T, what string, e, wanted api.Errno) {
	t.Helper()
	if e != wanted {
		t.Errorf("%s: got %d, want %d", what, e, wanted)
	}
}

// P7.3: the examples 3 of the chapter.
func TestTransformExamples(t *testing.T) {
	l, c := []float32{1, 2, 3, 4}, []complex64{10, -2 + 2i, -2, -2 - 2i}
	sameError(t, "CheckForward", spectrum.CheckForward(l, c), api.OK)
	sameError(t, "CheckBack", spectrum.CheckBack(c, []complex64{1, 2, 3, 4}), api.OK)
	sameError(t, "CheckForward", spectrum.CheckForward(l, []complex64{9, -2 + 2i, -2, -2 - 2i}), api.ErrProof)
	got, e := spectrum.Forward(l)
	if e != api.OK || len(got) != 4 || !isSpectrum(l, got) {
		t.Errorf("Forward: got %v, %d", got, e)
	}
	got, e = spectrum.Back(c)
	if e != api.OK || len(got) != 4 || !isInverse(c, got) {
		t.Errorf("Back: got %v, %d", got, e)
	}
}

// P7.3: transforms of samples of all kinds and numbers are accepted, by the definition and by the program.
func TestForward(t *testing.T) {
	r := source(20)
	for n := 1; n <= 64; n++ {
		for range 4 {
			l := anySamples(r, n)
			c, e := spectrum.Forward(l)
			if e != api.OK || len(c) != n || hasNegativeZero(c) {
				t.Fatalf("Forward %v: got %v, %d", l, c, e)
			}
			sameError(t, "CheckForward", spectrum.CheckForward(l, c), api.OK)
			if n%9 == 1 && !isSpectrum(l, c) {
				t.Errorf("the spectrum of %v is not %v", l, c)
			}
		}
	}
}

// P7.3: inverses of complex numbers of all kinds and numbers are accepted, by the definition and by the program.
func TestBack(t *testing.T) {
	r := source(21)
	for n := 1; n <= 64; n++ {
		for range 4 {
			c := anyComplex(r, n)
			v, e := spectrum.Back(c)
			if e != api.OK || len(v) != n || hasNegativeZero(v) {
				t.Fatalf("Back %v: got %v, %d", c, v, e)
			}
			sameError(t, "CheckBack", spectrum.CheckBack(c, v), api.OK)
			if n%9 == 1 && !isInverse(c, v) {
				t.Errorf("the inverse of %v is not %v", c, v)
			}
		}
	}
}

// P7.3: of single values the transforms are known exactly.
func TestTransformsOfOne(t *testing.T) {
	r := source(22)
	for n := 1; n <= 64; n++ {
		l := make([]float32, n)
		l[0] = float32(r.NormFloat64())
		flat := slices.Repeat([]complex64{complex(l[0], 0)}, n)
		sameError(t, "CheckForward", spectrum.CheckForward(l, flat), api.OK)
		one := make([]complex64, n)
		one[0] = complex(0, l[0]*float32(n))
		v := slices.Repeat([]complex64{complex(0, l[0])}, n)
		sameError(t, "CheckBack", spectrum.CheckBack(one, v), api.OK)
	}
	// Turned by a quarter, forwards and back.
	sameError(t, "CheckForward", spectrum.CheckForward([]float32{0, 1, 0, 0}, []complex64{1, -1i, -1, 1i}), api.OK)
	sameError(t, "CheckForward", spectrum.CheckForward([]float32{0, 1, 0, 0}, []complex64{1, 1i, -1, -1i}), api.ErrProof)
	sameError(t, "CheckBack", spectrum.CheckBack([]complex64{0, 4, 0, 0}, []complex64{1, 1i, -1, -1i}), api.OK)
	sameError(t, "CheckBack", spectrum.CheckBack([]complex64{0, 4, 0, 0}, []complex64{1, -1i, -1, 1i}), api.ErrProof)
	sameError(t, "CheckBack", spectrum.CheckBack([]complex64{0, 4i, 0, 0}, []complex64{1i, -1, -1i, 1}), api.OK)
	sameError(t, "CheckBack", spectrum.CheckBack([]complex64{0, 4i, 0, 0}, []complex64{1i, 1, -1i, -1}), api.ErrProof)
	// The square roots of 1/2 at 1/8 of a turn.
	root := float32(math.Sqrt2 / 2)
	eighth := []complex64{1, complex(root, -root), -1i, complex(-root, -root), -1, complex(-root, root), 1i, complex(root, root)}
	sameError(t, "CheckForward", spectrum.CheckForward([]float32{0, 1, 0, 0, 0, 0, 0, 0}, eighth), api.OK)
	back := make([]complex64, 8)
	back[7] = 8
	sameError(t, "CheckBack", spectrum.CheckBack(back, eighth), api.OK)
}

// bothChecks compares the result of both checks for one sample, whose spectrum and inverse are the sample itself.
func bothChecks(t *testing.T, f float32, c complex64, wanted api.Errno) {
	t.Helper()
	sameError(t, "CheckForward", spectrum.CheckForward([]float32{f}, []complex64{c}), wanted)
	sameError(t, "CheckBack", spectrum.CheckBack([]complex64{complex(f, 0)}, []complex64{c}), wanted)
}

// P7.3: the tolerance is the sum divided by 2^20, plus 2^-126, in each part and both directions.
func TestTolerance(t *testing.T) {
	tiny, least := power(-126), power(-149)
	for _, sign := range []float32{1, -1} {
		for _, turn := range []complex64{1, 1i, -1, -1i} {
			at := func(f float32) complex64 { return complex64(complex(f, 0)) * turn }
			// Of a sample 0 the tolerance is 2^-126.
			bothChecks(t, 0*sign, at(tiny), api.OK)
			bothChecks(t, 0*sign, at(tiny+least), api.ErrProof)
			// Of 2^-129 it is 2^-126 + 2^-149: the center is not 0.
			bothChecks(t, sign*power(-129), complex(sign*power(-129), 0)+at(tiny+least), api.OK)
			bothChecks(t, sign*power(-129), complex(sign*power(-129), 0)+at(tiny+2*least), api.ErrProof)
		}
		for _, x := range []float32{1, -1} {
			bothChecks(t, sign, complex(sign*(1+x*power(-20)), 0), api.OK)
			bothChecks(t, sign, complex(sign, x*power(-20)), api.OK)
			bothChecks(t, sign, complex(sign, x*(power(-20)+power(-43))), api.ErrProof)
		}
		bothChecks(t, sign, complex(sign*(1+power(-20)+power(-23)), 0), api.ErrProof)
		bothChecks(t, sign, complex(sign*(1-power(-20)-power(-24)), 0), api.ErrProof)
	}
}

// P7.3: the tolerance is that of all samples or parts together.
func TestToleranceOfAll(t *testing.T) {
	// The sum of the absolute values is 4, the tolerance 2^-18 and a little.
	l := []float32{1, -1, 1, -1}
	sameError(t, "CheckForward", spectrum.CheckForward(l, []complex64{complex(power(-18), 0), 0, 4, 0}), api.OK)
	sameError(t, "CheckForward", spectrum.CheckForward(l, []complex64{complex(power(-18)+power(-41), 0), 0, 4, 0}), api.ErrProof)
	sameError(t, "CheckForward", spectrum.CheckForward(l, []complex64{0, 0, 4, complex(0, -power(-18))}), api.OK)
	sameError(t, "CheckForward", spectrum.CheckForward(l, []complex64{0, 0, 4, complex(0, -power(-18)-power(-41))}), api.ErrProof)
	c := []complex64{1 - 1i, -1 + 1i}
	sameError(t, "CheckBack", spectrum.CheckBack(c, []complex64{complex(0, power(-18)), 1 - 1i}), api.OK)
	sameError(t, "CheckBack", spectrum.CheckBack(c, []complex64{complex(0, power(-18)+power(-41)), 1 - 1i}), api.ErrProof)
	sameError(t, "CheckBack", spectrum.CheckBack(c, []complex64{complex(-power(-18), 0), 1 - 1i}), api.OK)
	sameError(t, "CheckBack", spectrum.CheckBack(c, []complex64{complex(-power(-18)-power(-41), 0), 1 - 1i}), api.ErrProof)
}

// near returns complex numbers of which one part is moved by nearly the tolerance.
func near(r *rand.Rand, c []complex64, tolerance *big.Rat) []complex64 {
	size, _ := tolerance.Float32()
	by := size * float32(1-2*r.Intn(2)) * (1 + float32(r.Intn(9)-4)/float32(int(1)<<r.Intn(20)))
	moved := slices.Clone(c)
	if i := r.Intn(len(c)); r.Intn(2) == 0 {
		moved[i] += complex(by, 0)
	} else {
		moved[i] += complex(0, by)
	}
	return moved
}

// P7.3: the checks accept what the definition accepts, also at the edge of the tolerance.
func TestChecksAtTheEdge(t *testing.T) {
	r := source(23)
	counts := map[api.Errno]int{}
	verdict := func(isAccepted bool) api.Errno {
		if isAccepted {
			return api.OK
		}
		return api.ErrProof
	}
	for range 120 {
		n := 1 + r.Intn(12)
		l := anySamples(r, n)
		c, _ := spectrum.Forward(l)
		c = near(r, c, toleranceOf(l))
		e := spectrum.CheckForward(l, c)
		sameError(t, "CheckForward", e, verdict(isSpectrum(l, c)))
		counts[e]++
		c = anyComplex(r, n)
		v, _ := spectrum.Back(c)
		v = near(r, v, toleranceOf(partsOf(c)))
		e = spectrum.CheckBack(c, v)
		sameError(t, "CheckBack", e, verdict(isInverse(c, v)))
		counts[e]++
	}
	if counts[api.OK] < 30 || counts[api.ErrProof] < 30 {
		t.Errorf("the results are one-sided: %v", counts)
	}
}

// P7.3: both ends of an enclosure with 12 decimals count.
func TestEnclosuresCount(t *testing.T) {
	// The real parts are the sum of two opposite cosines, which is from -10^-12 to 10^-12, and the tolerance is 2^-19.
	l := []float32{0, 1, 0, 1, 0, 0, 0, 0}
	spectrumOfL, _ := spectrum.Forward(l)
	c := []complex64{0, 8, 0, 8, 0, 0, 0, 0}
	inverse, _ := spectrum.Back(c)
	for _, sign := range []float64{1, -1} {
		for _, row := range []struct {
			less   float64
			wanted api.Errno
		}{{0, api.ErrProof}, {0.8e-12, api.ErrProof}, {1.2e-12, api.OK}, {8e-12, api.OK}} {
			spectrumOfL[1] = complex(float32(sign*(math.Ldexp(1, -19)-row.less)), imag(spectrumOfL[1]))
			sameError(t, "CheckForward", spectrum.CheckForward(l, spectrumOfL), row.wanted)
			// The inverse has the same enclosures, and the tolerance is that of 16.
			inverse[1] = complex(float32(sign*(math.Ldexp(1, -16)-row.less)), imag(inverse[1]))
			wanted := api.ErrProof
			if isInverse(c, inverse) {
				wanted = api.OK
			}
			sameError(t, "CheckBack", spectrum.CheckBack(c, inverse), wanted)
		}
	}
}

// belowLimit returns samples whose sum is 2^120 less 2^-149.
func belowLimit() []float32 {
	var l []float32
	for exponent := 120; exponent > -149; exponent -= 24 {
		f := power(exponent) - power(max(exponent-24, -149))
		l = append(l, f)
	}
	return l
}

// P7.3: the sum of the absolute values is below 2^120, exactly.
func TestFloatLimit(t *testing.T) {
	l := belowLimit()
	for i := range l {
		if i%2 == 1 {
			l[i] = -l[i]
		}
	}
	c, e := spectrum.Forward(l)
	sameError(t, "Forward", e, api.OK)
	sameError(t, "CheckForward", spectrum.CheckForward(l, c), api.OK)
	more := append(slices.Clone(l), -power(-149))
	c, e = spectrum.Forward(more)
	sameList(t, "Forward", c, e, nil, api.ErrLarge)
	sameError(t, "CheckForward", spectrum.CheckForward(more, nil), api.ErrLarge)
	same := make([]complex64, len(l)/2+1)
	for i, f := range l {
		if i%2 == 0 {
			same[i/2] += complex(f, 0)
		} else {
			same[i/2] += complex(0, f)
		}
	}
	v, e := spectrum.Back(same)
	sameError(t, "Back", e, api.OK)
	sameError(t, "CheckBack", spectrum.CheckBack(same, v), api.OK)
	same = append(same, complex(0, power(-149)))
	v, e = spectrum.Back(same)
	sameList(t, "Back", v, e, nil, api.ErrLarge)
	sameError(t, "CheckBack", spectrum.CheckBack(same, nil), api.ErrLarge)
	for _, f := range []float32{power(120), -power(120), math.MaxFloat32, -math.MaxFloat32} {
		_, e = spectrum.Forward([]float32{f})
		sameError(t, "Forward", e, api.ErrLarge)
		_, e = spectrum.Back([]complex64{complex(0, f)})
		sameError(t, "Back", e, api.ErrLarge)
	}
	half := slices.Repeat([]float32{-power(114)}, 64)
	_, e = spectrum.Forward(half)
	sameError(t, "Forward", e, api.ErrLarge)
	half[9] = power(113)
	c, e = spectrum.Forward(half)
	sameError(t, "Forward", e, api.OK)
	sameError(t, "CheckForward", spectrum.CheckForward(half, c), api.OK)
}

// P7.3: the errors of samples, and those of complex numbers.
func TestFloatErrors(t *testing.T) {
	type badFloats struct {
		l []float32
		e api.Errno
	}
	bad := []badFloats{{nil, api.ErrEmpty}, {make([]float32, 65), api.ErrMany}, {make([]float32, 5000), api.ErrMany}, {append(notFinite(), make([]float32, 61)...), api.ErrMany}, {slices.Repeat([]float32{math.MaxFloat32}, 65), api.ErrMany}, {slices.Repeat([]float32{math.MaxFloat32}, 64), api.ErrLarge}}
	for _, f := range notFinite() {
		bad = append(bad, badFloats{[]float32{f}, api.ErrForm}, badFloats{append(make([]float32, 63), f), api.ErrForm}, badFloats{[]float32{math.MaxFloat32, 0, f}, api.ErrForm})
	}
	for _, row := range bad {
		for _, second := range [][]complex64{nil, make([]complex64, len(row.l)), {complex(notFinite()[0], 0)}} {
			sameError(t, "CheckForward", spectrum.CheckForward(row.l, second), row.e)
		}
		c, e := spectrum.Forward(row.l)
		sameList(t, "Forward", c, e, nil, row.e)
		for _, turn := range []func(float32) complex64{func(f float32) complex64 { return complex(f, 0) }, func(f float32) complex64 { return complex(0, f) }} {
			var first []complex64
			for _, f := range row.l {
				first = append(first, turn(f))
			}
			for _, second := range [][]complex64{nil, make([]complex64, len(row.l)), {complex(0, notFinite()[1])}} {
				sameError(t, "CheckBack", spectrum.CheckBack(first, second), row.e)
			}
			v, e := spectrum.Back(first)
			sameList(t, "Back", v, e, nil, row.e)
		}
	}
}

// P7.3: the second list of a check has the length of the first one and finite parts, which may be large.
func TestProofErrors(t *testing.T) {
	for n := 1; n <= 3; n++ {
		l, first := make([]float32, n), make([]complex64, n)
		for _, size := range []int{0, n - 1, n + 1, 65, 5000} {
			if size == n {
				continue
			}
			second := make([]complex64, size)
			for range 2 {
				sameError(t, "CheckForward", spectrum.CheckForward(l, second), api.ErrShape)
				sameError(t, "CheckBack", spectrum.CheckBack(first, second), api.ErrShape)
				if size > 0 {
					second[size-1] = complex(0, notFinite()[2])
				}
			}
		}
		for _, f := range notFinite() {
			for _, x := range []complex64{complex(f, 0), complex(0, f), complex(f, f), complex(math.MaxFloat32, f)} {
				// The first part is not accepted, but all are examined for their form first.
				second := append([]complex64{7}, make([]complex64, n-1)...)
				second[n-1] = x
				sameError(t, "CheckForward", spectrum.CheckForward(l, second), api.ErrForm)
				sameError(t, "CheckBack", spectrum.CheckBack(first, second), api.ErrForm)
			}
		}
		large := slices.Repeat([]complex64{complex(math.MaxFloat32, -math.MaxFloat32)}, n)
		sameError(t, "CheckForward", spectrum.CheckForward(l, large), api.ErrProof)
		sameError(t, "CheckBack", spectrum.CheckBack(first, large), api.ErrProof)
	}
}

// P7.3: a wrong number at any index is found, in each part.
func TestEachBinCounts(t *testing.T) {
	r := source(24)
	for _, n := range []int{1, 2, 5, 64} {
		l := anySamples(r, n)
		c, _ := spectrum.Forward(l)
		first := anyComplex(r, n)
		v, _ := spectrum.Back(first)
		for i := range n {
			for _, by := range []complex64{complex(power(120), 0), complex(0, -power(120))} {
				wrong := slices.Clone(c)
				wrong[i] += by
				sameError(t, "CheckForward", spectrum.CheckForward(l, wrong), api.ErrProof)
				wrong = slices.Clone(v)
				wrong[i] -= by
				sameError(t, "CheckBack", spectrum.CheckBack(first, wrong), api.ErrProof)
			}
		}
	}
}

// P7.3: an argument -0 counts as 0, and no part of a result is -0.
func TestNegativeZeros(t *testing.T) {
	zero := negativeZero()
	for n := 1; n <= 64; n++ {
		l := slices.Repeat([]float32{zero}, n)
		c, e := spectrum.Forward(l)
		sameList(t, "Forward", c, e, make([]complex64, n), api.OK)
		same := slices.Repeat([]complex64{complex(zero, zero)}, n)
		v, e := spectrum.Back(same)
		sameList(t, "Back", v, e, make([]complex64, n), api.OK)
		if hasNegativeZero(c) || hasNegativeZero(v) {
			t.Errorf("-0 in %v or %v", c, v)
		}
		sameError(t, "CheckForward", spectrum.CheckForward(l, same), api.OK)
		sameError(t, "CheckBack", spectrum.CheckBack(same, same), api.OK)
	}
	c, _ := spectrum.Forward([]float32{1, 2, 3, 4})
	v, _ := spectrum.Back([]complex64{1, 2, 3, 4})
	small, _ := spectrum.Back([]complex64{complex(-power(-149), -power(-149)), 0, 0, 0})
	if hasNegativeZero(slices.Concat(c, v, small)) {
		t.Errorf("-0 in %v, %v or %v", c, v, small)
	}
}

// P7.3: arguments do not change.
func TestTransformsKeepArguments(t *testing.T) {
	c := []complex64{1, 2i, 3 - 1i}
	unchanged(t, []float32{3, 1, -2}, func(l []float32) {
		spectrum.Forward(l)
		spectrum.CheckForward(l, c)
	})
	unchanged(t, c, func(c []complex64) {
		spectrum.Back(c)
		spectrum.CheckBack(c, c)
	})
}
