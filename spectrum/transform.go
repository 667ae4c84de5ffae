package spectrum

import (
	"math"
	"slices"

	"strobe/api"
	"strobe/common"
	"strobe/number"
	"strobe/rational"
)

// The sum of the absolute values of floats is below floatLimit. The tolerance of a transform is
// this sum divided by toleranceScale, plus leastTolerance; transforms are compared with it with proofDecimals.
const (
	floatLimit     = 0x1p120
	toleranceScale = 1 << 20
	leastTolerance = 0x1p-126
	proofDecimals  = 12
)

// multiple returns a float as a multiple of the least float above 0. It is an integer, and sums of integers are fast.
func multiple(f float32) rational.Number {
	return rational.Exact(f).Over(rational.Exact(math.SmallestNonzeroFloat32))
}

// multiples returns floats as multiples of the least float above 0, or ErrForm if one is not finite.
func multiples(floats []float32) ([]rational.Number, api.Errno) {
	if e := number.CheckSamples(floats); e != api.OK {
		return nil, e
	}
	return common.Transformed(floats, multiple), api.OK
}

// readFloats returns some floats, at least one, as multiples; ErrForm, or ErrLarge if their sum is too large.
func readFloats(floats []float32) ([]rational.Number, api.Errno) {
	values, e := multiples(floats)
	if e != api.OK {
		return nil, e
	}
	return values, common.ErrorIf(magnitude(values).Compare(multiple(floatLimit)) >= 0, api.ErrLarge)
}

// magnitude returns the sum of the absolute values of some numbers, at least one.
func magnitude(values []rational.Number) rational.Number {
	return common.Folded(rational.Number.Plus, common.Transformed(values, rational.Number.Magnitude))
}

// tolerance returns the tolerance of some floats, which are multiples, as a multiple, too.
func tolerance(values []rational.Number) rational.Number {
	return magnitude(values).Over(rational.Of(toleranceScale)).Plus(multiple(leastTolerance))
}

// readSamples returns samples as multiples, or their error.
func readSamples(l []float32) ([]rational.Number, api.Errno) {
	if e := checkSize(l, MaxPoints); e != api.OK {
		return nil, e
	}
	return readFloats(l)
}

// partsOf returns the real parts of complex numbers, and after them the imaginary parts.
func partsOf(c []complex64) []float32 {
	reals := common.Transformed(c, func(x complex64) float32 { return real(x) })
	imaginaries := common.Transformed(c, func(x complex64) float32 { return imag(x) })
	return slices.Concat(reals, imaginaries)
}

// readComplex returns the parts of complex numbers as multiples, or the error of complex numbers.
func readComplex(c []complex64) ([]rational.Number, api.Errno) {
	if e := checkSize(c, MaxPoints); e != api.OK {
		return nil, e
	}
	return readFloats(partsOf(c))
}

// readProof returns the parts of complex numbers as multiples, ErrShape if there are not n, or ErrForm.
func readProof(c []complex64, n int) ([]rational.Number, api.Errno) {
	if len(c) != n {
		return nil, api.ErrShape
	}
	return multiples(partsOf(c))
}

// checkProof returns ErrProof if a part of complex numbers differs by more than the tolerance from what is true of its index.
func checkProof(proof []rational.Number, most rational.Number, truth func(int) phasor) api.Errno {
	n := len(proof) / 2
	for i := range n {
		p := truth(i)
		if !rational.Around(proof[i], most).Contains(p.real) || !rational.Around(proof[n+i], most).Contains(p.imaginary) {
			return api.ErrProof
		}
	}
	return api.OK
}

// transformed returns for each index k the sum of all values, each turned by k times its own index:
// forwards if the direction is -1, and back if it is 1. Double precision keeps the errors far below the tolerance.
func transformed(values []complex128, direction float64) []complex128 {
	n := len(values)
	step := direction * 2 * math.Pi / float64(n)
	results := make([]complex128, n)
	for k := range results {
		for j, x := range values {
			sine, cosine := math.Sincos(step * float64(j*k%n))
			results[k] += x * complex(cosine, sine)
		}
	}
	return results
}

// narrowed returns the nearest complex64, without a part -0.
func narrowed(x complex128) complex64 {
	return complex(common.PositiveZero(float32(real(x))), common.PositiveZero(float32(imag(x))))
}

// Forward returns the DFT of samples.
func Forward(l []float32) ([]complex64, api.Errno) {
	if _, e := readSamples(l); e != api.OK {
		return nil, e
	}
	values := common.Transformed(l, func(x float32) complex128 { return complex(float64(x), 0) })
	return common.Transformed(transformed(values, -1), narrowed), api.OK
}

// CheckForward returns OK if a spectrum is that of samples, within the tolerance.
func CheckForward(l []float32, c []complex64) api.Errno {
	samples, errSamples := readSamples(l)
	proof, errProof := readProof(c, len(l))
	if e := common.FirstError(errSamples, errProof); e != api.OK {
		return e
	}
	directions := circleOf(len(l), proofDecimals)
	return checkProof(proof, tolerance(samples), func(k int) phasor { return directions.bin(samples, k) })
}

// Back returns the inverse DFT of a spectrum.
func Back(c []complex64) ([]complex64, api.Errno) {
	if _, e := readComplex(c); e != api.OK {
		return nil, e
	}
	share := complex(1/float64(len(c)), 0)
	values := common.Transformed(c, func(x complex64) complex128 { return complex128(x) * share })
	return common.Transformed(transformed(values, 1), narrowed), api.OK
}

// CheckBack returns OK if values are the inverse DFT of a spectrum, within the tolerance.
func CheckBack(c, v []complex64) api.Errno {
	parts, errParts := readComplex(c)
	proof, errProof := readProof(v, len(c))
	if e := common.FirstError(errParts, errProof); e != api.OK {
		return e
	}
	directions := circleOf(len(c), proofDecimals)
	return checkProof(proof, tolerance(parts), func(j int) phasor { return directions.inverse(parts, j) })
}
