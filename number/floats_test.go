package number_test

import (
	"math"
	"math/big"
	"testing"

	"strobe/api"
	"strobe/number"
)

// floats returns floats of all exponents with the significands at which rounding is decided, and random ones.
func floats() []float32 {
	var l []float32
	for exponent := uint32(0); exponent < 255; exponent++ {
		for _, significand := range []uint32{0, 1, 2, 3, 1 << 22, 1<<22 + 1, 1<<23 - 2, 1<<23 - 1} {
			f := math.Float32frombits(exponent<<23 | significand)
			l = append(l, f, -f)
		}
	}
	r := source(8)
	for range 5000 {
		f := math.Float32frombits(r.Uint32())
		if f-f == 0 {
			l = append(l, f)
		}
	}
	return l
}

// notFinite returns NaNs of several kinds, and the infinities.
func notFinite() []float32 {
	return []float32{float32(math.Inf(1)), float32(math.Inf(-1)), math.Float32frombits(0x7fc00000), math.Float32frombits(0xffc00000), math.Float32frombits(0x7f800001), math.Float32frombits(0xffffffff)}
}

// P1.4: exact values.
func TestExact(t *testing.T) {
	for _, row := range []struct {
		f float32
		a api.Rat
	}{
		{0, "0"}, {float32(math.Copysign(0, -1)), "0"}, {0.75, "3/4"}, {-2.5, "-5/2"}, {16777216, "16777216"}, {1.0 / 3, "11184811/33554432"}, {1, "1"}, {-1, "-1"}, {0.1, "13421773/134217728"},
		{math.MaxFloat32, "340282346638528859811704183484516925440"}, {-math.MaxFloat32, "-340282346638528859811704183484516925440"}, {math.SmallestNonzeroFloat32, "1/713623846352979940529142984724747568191373312"}, {-math.SmallestNonzeroFloat32, "-1/713623846352979940529142984724747568191373312"},
	} {
		a, e := number.Exact(row.f)
		expect(t, "Exact", a, e, row.a, api.OK)
	}
	for _, f := range notFinite() {
		a, e := number.Exact(f)
		expect(t, "Exact", a, e, "", api.ErrForm)
	}
	for _, f := range floats() {
		a, e := number.Exact(f)
		expect(t, "Exact", a, e, api.Rat(new(big.Rat).SetFloat64(float64(f)).RatString()), api.OK)
	}
}

// compareFloat compares the float nearest to a number with the reference.
func compareFloat(t *testing.T, x *big.Rat) {
	t.Helper()
	wanted, wantedError := float32(0), api.OK
	if f, _ := x.Float32(); math.IsInf(float64(f), 0) {
		wantedError = api.ErrLarge
	} else if f != 0 {
		wanted = f
	}
	f, e := number.Float(api.Rat(x.RatString()))
	// The bits are compared, as 0 and -0 are equal.
	expect(t, "Float "+x.RatString(), math.Float32bits(f), e, math.Float32bits(wanted), wantedError)
}

// P1.4: the nearest floats.
func TestFloat(t *testing.T) {
	for _, row := range []struct {
		a api.Rat
		f float32
		e api.Errno
	}{
		{"0", 0, api.OK}, {"1/3", 1.0 / 3, api.OK}, {"-1/3", -1.0 / 3, api.OK}, {"16777217", 16777216, api.OK}, {"16777219", 16777220, api.OK}, {"-16777217", -16777216, api.OK}, {"-16777219", -16777220, api.OK}, {"33554433/2", 16777216, api.OK}, {"33554435/2", 16777218, api.OK}, {"1/10", 0.1, api.OK}, {"16777215", 16777215, api.OK}, {"33554431/2", 16777216, api.OK},
		{"", 0, api.ErrForm}, {"x", 0, api.ErrForm}, {"2/4", 0, api.ErrForm}, {"-0", 0, api.ErrForm}, {api.Rat(nines(601)), 0, api.ErrLarge}, {api.Rat(nines(600)), 0, api.ErrLarge}, {api.Rat("-" + nines(600)), 0, api.ErrLarge},
		{"340282346638528859811704183484516925440", math.MaxFloat32, api.OK}, {"340282366920938463463374607431768211456", 0, api.ErrLarge}, {"-340282366920938463463374607431768211456", 0, api.ErrLarge},
		// The middle between the greatest float and 2^128 rounds to 2^128.
		{"340282356779733661637539395458142568447", math.MaxFloat32, api.OK}, {"340282356779733661637539395458142568448", 0, api.ErrLarge}, {"-340282356779733661637539395458142568447", -math.MaxFloat32, api.OK}, {"-340282356779733661637539395458142568448", 0, api.ErrLarge},
		{api.Rat("1/" + power(599)), 0, api.OK}, {api.Rat("-1/" + power(599)), 0, api.OK},
	} {
		f, e := number.Float(row.a)
		expect(t, "Float "+string(row.a), f, e, row.f, row.e)
	}
}

// No result is -0: negative numbers that round to 0 have the result 0.
func TestFloatHasNoNegativeZero(t *testing.T) {
	half := new(big.Rat).SetFrac(big.NewInt(1), new(big.Int).Lsh(big.NewInt(1), 150))
	for _, a := range []string{"-1/" + nines(600), new(big.Rat).Neg(half).RatString(), "-1/" + power(50)} {
		f, e := number.Float(api.Rat(a))
		expect(t, "Float "+a, math.Float32bits(f), e, 0, api.OK)
	}
}

// P1.4: the floats themselves, the middles between neighbours, and numbers next to these middles.
func TestFloatAtTheMiddles(t *testing.T) {
	little := value(api.Rat("1/" + power(80)))
	for _, f := range floats() {
		x := new(big.Rat).SetFloat64(float64(f))
		next := math.Nextafter32(f, float32(math.Inf(1)))
		y := new(big.Rat).SetFrac(new(big.Int).Lsh(big.NewInt(1), 128), big.NewInt(1))
		if !math.IsInf(float64(next), 0) {
			y.SetFloat64(float64(next))
		}
		middle := new(big.Rat).Add(x, y)
		middle.Mul(middle, big.NewRat(1, 2))
		compareFloat(t, x)
		compareFloat(t, middle)
		compareFloat(t, new(big.Rat).Add(middle, little))
		compareFloat(t, new(big.Rat).Sub(middle, little))
	}
}

func TestFloatOfRandomNumbers(t *testing.T) {
	r := source(9)
	for i := range 4000 {
		compareFloat(t, randomRat(r, []int{30, 64, 160, 400}[i%4]))
	}
}

// P1.4: the errors of samples.
func TestCheckSamples(t *testing.T) {
	l := append([]float32{0, float32(math.Copysign(0, -1)), 1, -2.5}, floats()...)
	expect(t, "CheckSamples nil", 0, number.CheckSamples(nil), 0, api.OK)
	expect(t, "CheckSamples empty", 0, number.CheckSamples([]float32{}), 0, api.OK)
	expect(t, "CheckSamples", 0, number.CheckSamples(l[:4096]), 0, api.OK)
	expect(t, "CheckSamples", 0, number.CheckSamples(l[len(l)-4096:]), 0, api.OK)
	expect(t, "CheckSamples 4097", 0, number.CheckSamples(l[:4097]), 0, api.ErrMany)
	for _, f := range notFinite() {
		for _, n := range []int{1, 2, 4095, 4096} {
			bad := make([]float32, n)
			bad[n-1] = f
			expect(t, "CheckSamples with a NaN or an infinity", 0, number.CheckSamples(bad), 0, api.ErrForm)
		}
		bad := make([]float32, 4097)
		bad[0] = f
		expect(t, "CheckSamples with both errors", 0, number.CheckSamples(bad), 0, api.ErrMany)
	}
}
