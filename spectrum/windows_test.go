package spectrum_test

import (
	"math"
	"math/big"
	"slices"
	"testing"

	"strobe/api"
	"strobe/spectrum"
)

// weight returns the weight of an index in a window, by the definition.
func weight(kind string, j, n int) *big.Rat {
	place := big.NewRat(int64(2*j+1-n), int64(n))
	switch kind {
	case "triangle":
		return minus(integer(1), magnitude(place))
	case "welch":
		return minus(integer(1), times(place, place))
	}
	return integer(1)
}

// weights returns the weights of a window.
func weights(kind string, n int) []*big.Rat {
	var l []*big.Rat
	for j := range n {
		l = append(l, weight(kind, j, n))
	}
	return l
}

// P7.1: the examples 1 of the chapter.
func TestWindowExamples(t *testing.T) {
	l, e := spectrum.Window("triangle", 4)
	sameList(t, "Window", l, e, []api.Rat{"1/4", "3/4", "3/4", "1/4"}, api.OK)
	l, e = spectrum.Window("welch", 2)
	sameList(t, "Window", l, e, []api.Rat{"3/4", "3/4"}, api.OK)
	x, e := spectrum.Energy([]api.Rat{"1", "-2", "3"})
	same(t, "Energy", x, e, "14", api.OK)
	l, e = spectrum.Shift([]api.Rat{"1", "2", "3"}, 1)
	sameList(t, "Shift", l, e, []api.Rat{"3", "1", "2"}, api.OK)
}

// P7.1: windows of all kinds and sizes.
func TestWindow(t *testing.T) {
	for _, kind := range kinds() {
		for n := 1; n <= 64; n++ {
			l, e := spectrum.Window(kind, n)
			sameList(t, "Window "+kind, l, e, texts(weights(kind, n)), api.OK)
		}
		l, e := spectrum.Window(kind, 1)
		sameList(t, "Window "+kind+" of one point", l, e, []api.Rat{"1"}, api.OK)
	}
	l, e := spectrum.Window("triangle", 3)
	sameList(t, "Window", l, e, []api.Rat{"1/3", "1", "1/3"}, api.OK)
	l, e = spectrum.Window("welch", 3)
	sameList(t, "Window", l, e, []api.Rat{"5/9", "1", "5/9"}, api.OK)
}

// P7.1: the kind is examined before the number of points.
func TestWindowErrors(t *testing.T) {
	for _, n := range append(far(), 0, 65) {
		for _, kind := range kinds() {
			l, e := spectrum.Window(kind, n)
			sameList(t, "Window "+kind, l, e, nil, api.ErrRange)
		}
		l, e := spectrum.Window("hann", n)
		sameList(t, "Window hann", l, e, nil, api.ErrKind)
	}
	for _, kind := range []string{"", "Box", "box ", "boxes", "bo", "triangl", "welch\x00", "\xff"} {
		l, e := spectrum.Window(kind, 3)
		sameList(t, "Window "+kind, l, e, nil, api.ErrKind)
		l, e = spectrum.Weighted([]api.Rat{"1"}, kind)
		sameList(t, "Weighted "+kind, l, e, nil, api.ErrKind)
		l, e = spectrum.Weighted([]api.Rat{"1", "x"}, kind)
		sameList(t, "Weighted "+kind, l, e, nil, api.ErrForm)
	}
}

// P7.1: weighted values are those of the definition.
func TestWeighted(t *testing.T) {
	r := source(1)
	for n := 1; n <= 64; n++ {
		values := anyValues(r, n)
		for _, kind := range kinds() {
			var wanted []api.Rat
			for j, a := range values {
				wanted = append(wanted, text(times(valid(a), weight(kind, j, n))))
			}
			l, e := spectrum.Weighted(values, kind)
			sameList(t, "Weighted "+kind, l, e, wanted, api.OK)
		}
	}
}

// P7.1: a weighted value with too many digits is ErrLarge, and one whose digits become fewer is not.
func TestLargeWeighted(t *testing.T) {
	// The weights are 1/4 and 3/4.
	l, e := spectrum.Weighted([]api.Rat{"0", "1", "2", "1/" + nines(600)}, "triangle")
	sameList(t, "Weighted", l, e, nil, api.ErrLarge)
	l, e = spectrum.Weighted([]api.Rat{"0", "1", "2", "1/" + nines(600)}, "box")
	sameList(t, "Weighted", l, e, []api.Rat{"0", "1", "2", "1/" + nines(600)}, api.OK)
	l, e = spectrum.Weighted([]api.Rat{"4/" + nines(600), "4/" + nines(600), "0", "0"}, "triangle")
	sameList(t, "Weighted", l, e, []api.Rat{"1/" + nines(600), text(over(integer(3), valid(nines(600)))), "0", "0"}, api.OK)
}

// P7.1: the energy is the sum of the squares.
func TestEnergy(t *testing.T) {
	r := source(2)
	for n := 1; n <= 64; n++ {
		values := anyValues(r, n)
		sum := integer(0)
		for _, a := range values {
			sum = plus(sum, times(valid(a), valid(a)))
		}
		x, e := spectrum.Energy(values)
		same(t, "Energy", x, e, text(sum), api.OK)
	}
}

// hypotenuse returns two numbers with denominators of 2 n digits, nearly, whose squares have the sum 1.
func hypotenuse(n int) (*big.Rat, *big.Rat) {
	m := new(big.Int).Exp(big.NewInt(10), big.NewInt(int64(n)), nil)
	one, two := big.NewInt(1), big.NewInt(2)
	square := new(big.Int).Mul(m, m)
	sum := new(big.Int).Add(square, one)
	return new(big.Rat).SetFrac(new(big.Int).Sub(square, one), sum), new(big.Rat).SetFrac(new(big.Int).Mul(two, m), sum)
}

// P7.1: squares may have more digits than their sum, which may have too many.
func TestLargeEnergy(t *testing.T) {
	a, b := hypotenuse(299)
	x, e := spectrum.Energy([]api.Rat{text(a), "-1/2", text(b)})
	same(t, "Energy", x, e, "5/4", api.OK)
	x, e = spectrum.Energy([]api.Rat{text(a), text(a)})
	same(t, "Energy", x, e, "", api.ErrLarge)
	x, e = spectrum.Energy([]api.Rat{nines(300)})
	same(t, "Energy", x, e, text(times(valid(nines(300)), valid(nines(300)))), api.OK)
	x, e = spectrum.Energy([]api.Rat{"1", nines(301)})
	same(t, "Energy", x, e, "", api.ErrLarge)
}

// P7.1: values are rotated by any integer.
func TestShift(t *testing.T) {
	r := source(3)
	for n := 1; n <= 64; n++ {
		values := anyValues(r, n)
		for _, by := range append(far(), 0, 1, -1, 2, n, -n, n+1, -n-1, 63*n+2, r.Intn(1000)-500, math.MaxInt-1) {
			wanted := make([]api.Rat, n)
			for j := range wanted {
				wanted[j] = values[modulo(modulo(j, n)-modulo(by, n), n)]
			}
			l, e := spectrum.Shift(values, by)
			sameList(t, "Shift", l, e, wanted, api.OK)
		}
	}
}

// P7.1: the errors of values.
func TestValueErrors(t *testing.T) {
	for _, bad := range badLists() {
		for _, kind := range append(kinds(), "none") {
			l, e := spectrum.Weighted(bad.l, kind)
			sameList(t, "Weighted", l, e, nil, bad.e)
		}
		x, e := spectrum.Energy(bad.l)
		same(t, "Energy", x, e, "", bad.e)
		l, e := spectrum.Shift(bad.l, 1)
		sameList(t, "Shift", l, e, nil, bad.e)
	}
}

// P7.1: arguments do not change, and results share no memory with them.
func TestValuesAreImmutable(t *testing.T) {
	unchanged(t, []api.Rat{"3", "1", "2"}, func(l []api.Rat) {
		for _, by := range []int{0, 1, 3} {
			rotated, _ := spectrum.Shift(l, by)
			slices.Sort(rotated)
		}
		weighted, _ := spectrum.Weighted(l, "box")
		slices.Sort(weighted)
		spectrum.Energy(l)
	})
}
