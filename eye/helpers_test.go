package eye_test

import (
	"math"
	"math/big"
	"math/rand"
	"slices"
	"strings"
	"testing"

	"strobe/api"
	"strobe/eye"
)

// nines returns a number of n digits 9.
func nines(n int) api.Rat { return api.Rat(strings.Repeat("9", n)) }

// zeros returns n digits 0.
func zeros(n int) api.Rat { return api.Rat(strings.Repeat("0", n)) }

// source returns a sequence of random numbers that is the same on each run.
func source(seed int64) *rand.Rand { return rand.New(rand.NewSource(seed)) }

// valid returns a valid number as a value of math/big.
func valid(a api.Rat) *big.Rat {
	x, ok := new(big.Rat).SetString(string(a))
	if !ok {
		panic("no number: " + string(a))
	}
	return x
}

// text returns the number with a value, whatever its digits.
func text(x *big.Rat) api.Rat { return api.Rat(x.RatString()) }

// texts returns the numbers with some values.
func texts(l []*big.Rat) []api.Rat {
	var numbers []api.Rat
	for _, x := range l {
		numbers = append(numbers, text(x))
	}
	return numbers
}

// rat returns the number with a value, or ErrLarge if it has too many digits.
func rat(x *big.Rat) (api.Rat, api.Errno) {
	if len(strings.TrimPrefix(x.Num().String(), "-")) > api.MaxDigits || len(x.Denom().String()) > api.MaxDigits {
		return "", api.ErrLarge
	}
	return text(x), api.OK
}

func plus(a, b *big.Rat) *big.Rat   { return new(big.Rat).Add(a, b) }
func minus(a, b *big.Rat) *big.Rat  { return new(big.Rat).Sub(a, b) }
func times(a, b *big.Rat) *big.Rat  { return new(big.Rat).Mul(a, b) }
func over(a, b *big.Rat) *big.Rat   { return new(big.Rat).Quo(a, b) }
func magnitude(a *big.Rat) *big.Rat { return new(big.Rat).Abs(a) }
func negative(a *big.Rat) *big.Rat  { return new(big.Rat).Neg(a) }
func fraction(a, b int64) *big.Rat  { return big.NewRat(a, b) }
func integer(n int) *big.Rat        { return new(big.Rat).SetInt64(int64(n)) }
func exact(f float32) *big.Rat      { return new(big.Rat).SetFloat64(float64(f)) }
func isAbove(a, b *big.Rat) bool    { return a.Cmp(b) > 0 }
func isAtLeast(a, b *big.Rat) bool  { return a.Cmp(b) >= 0 }
func isSmallNumber(a *big.Rat) bool { return magnitude(a).Cmp(integer(api.MaxNumber)) <= 0 }
func floorOf(a *big.Rat) *big.Rat   { return new(big.Rat).SetInt(new(big.Int).Div(a.Num(), a.Denom())) }
func at(x, y api.Rat) api.Point     { return api.Point{X: x, Y: y} }
func point(x, y *big.Rat) api.Point { return at(text(x), text(y)) }
func clock(a, b *big.Rat) eye.Clock { return eye.Clock{Start: text(a), Period: text(b)} }
func negativeZero() float32         { return float32(math.Copysign(0, -1)) }
func far() []int                    { return []int{math.MinInt, math.MinInt + 1, -1, 1000000000, math.MaxInt} }
func exampleLoop() eye.Loop {
	return eye.Loop{Period: "10", Phase: "1/2", Frequency: "0", Tolerance: "1"}
}
func exampleGrid() eye.Grid    { return eye.Grid{Columns: 2, Rows: 2, Low: "0", High: "2"} }
func exampleMask() []api.Point { return []api.Point{at("1/4", "0"), at("3/4", "0"), at("1/2", "1")} }
func unitMask() []api.Point {
	return []api.Point{at("0", "0"), at("1", "0"), at("1", "1"), at("0", "1")}
}
func exampleClock() eye.Clock        { return eye.Clock{Start: "0", Period: "4"} }
func oneMask() [][]api.Point         { return [][]api.Point{exampleMask()} }
func numbers(l ...api.Rat) []api.Rat { return l }

// notFinite returns NaNs and infinities.
func notFinite() []float32 {
	return []float32{float32(math.NaN()), float32(math.Inf(1)), float32(math.Inf(-1)), math.Float32frombits(0xffc00001)}
}

// bad is an argument with an error.
type bad[T any] struct {
	argument T
	e        api.Errno
}

// badNumbers returns strings that are no numbers.
func badNumbers() []bad[api.Rat] {
	var l []bad[api.Rat]
	for _, a := range []api.Rat{"", "-", "x", "-0", "01", "1/0", "1/1", "2/4", "0/5", "+1", " 1", "1.5", "1/-2", "1/2/3", "\xff", "1\x00", nines(600) + "/" + nines(600)} {
		l = append(l, bad[api.Rat]{a, api.ErrForm})
	}
	for _, a := range []api.Rat{nines(601), "-" + nines(601), "1/" + nines(601)} {
		l = append(l, bad[api.Rat]{a, api.ErrLarge})
	}
	return l
}

// badSamples returns samples with an error.
func badSamples() []bad[[]float32] {
	l := []bad[[]float32]{{make([]float32, 4097), api.ErrMany}, {append(notFinite(), make([]float32, 4096)...), api.ErrMany}}
	for _, f := range notFinite() {
		l = append(l, bad[[]float32]{[]float32{f}, api.ErrForm}, bad[[]float32]{[]float32{0, 9, 0, 9, f}, api.ErrForm})
	}
	return l
}

// badClocks returns clocks with an error.
func badClocks() []bad[eye.Clock] {
	l := []bad[eye.Clock]{{eye.Clock{}, api.ErrForm}, {eye.Clock{Start: nines(601), Period: "x"}, api.ErrLarge}, {eye.Clock{Start: "x", Period: "0"}, api.ErrForm}}
	for _, b := range badNumbers() {
		l = append(l, bad[eye.Clock]{eye.Clock{Start: b.argument, Period: "1"}, b.e}, bad[eye.Clock]{eye.Clock{Start: "1", Period: b.argument}, b.e})
	}
	for _, period := range []api.Rat{"0", "-1", "-1/2", "-" + nines(600), "-1/" + nines(600)} {
		l = append(l, bad[eye.Clock]{eye.Clock{Start: "-1/2", Period: period}, api.ErrRange})
	}
	return l
}

// badGrids returns grids with an error.
func badGrids() []bad[eye.Grid] {
	var l []bad[eye.Grid]
	for _, n := range append(far(), 0, 65) {
		l = append(l, bad[eye.Grid]{eye.Grid{Columns: n, Rows: 2, Low: "x", High: "x"}, api.ErrRange}, bad[eye.Grid]{eye.Grid{Columns: 2, Rows: n, Low: "x", High: "x"}, api.ErrRange})
		l = append(l, bad[eye.Grid]{eye.Grid{Columns: n, Rows: 2, Low: "0", High: "1"}, api.ErrRange}, bad[eye.Grid]{eye.Grid{Columns: 2, Rows: n, Low: "0", High: "1"}, api.ErrRange})
	}
	for _, b := range badNumbers() {
		l = append(l, bad[eye.Grid]{eye.Grid{Columns: 1, Rows: 64, Low: b.argument, High: "1"}, b.e}, bad[eye.Grid]{eye.Grid{Columns: 64, Rows: 1, Low: "1", High: b.argument}, b.e})
	}
	l = append(l, bad[eye.Grid]{eye.Grid{Columns: 1, Rows: 1, Low: nines(601), High: "x"}, api.ErrLarge}, bad[eye.Grid]{eye.Grid{Columns: 1, Rows: 1, Low: "x", High: nines(601)}, api.ErrForm})
	for _, ends := range [][2]api.Rat{{"0", "0"}, {"1", "0"}, {"1/2", "1/3"}, {"-1", "-2"}, {nines(600), nines(599)}} {
		l = append(l, bad[eye.Grid]{eye.Grid{Columns: 1, Rows: 1, Low: ends[0], High: ends[1]}, api.ErrOrder})
	}
	return l
}

// badMasks returns lists of points that are no masks.
func badMasks() []bad[[]api.Point] {
	l := []bad[[]api.Point]{
		{nil, api.ErrShape}, {[]api.Point{}, api.ErrShape}, {[]api.Point{at("x", "x"), at("x", "x")}, api.ErrShape}, {unitMask()[:2], api.ErrShape},
		{make([]api.Point, 17), api.ErrMany}, {make([]api.Point, 5000), api.ErrMany}, {slices.Repeat(unitMask(), 5), api.ErrMany},
		{make([]api.Point, 16), api.ErrForm}, {[]api.Point{at("0", "0"), at(nines(601), "x"), at("x", "0")}, api.ErrLarge}, {[]api.Point{at("0", "0"), at("x", nines(601)), at(nines(601), "0")}, api.ErrForm},
		{[]api.Point{at("0", nines(601)), at("x", "x"), at("0", "0")}, api.ErrLarge},
	}
	for _, b := range badNumbers() {
		// The first two points make the order wrong already.
		l = append(l, bad[[]api.Point]{[]api.Point{at("0", "0"), at("0", "0"), at(b.argument, "1")}, b.e}, bad[[]api.Point]{[]api.Point{at("0", "0"), at("0", "0"), at("1", b.argument)}, b.e})
	}
	for _, m := range noPolygons() {
		l = append(l, bad[[]api.Point]{m, api.ErrRule})
	}
	return l
}

// noPolygons returns lists of points that are no strictly convex polygons.
func noPolygons() [][]api.Point {
	a, b, c, d := at("0", "0"), at("1", "0"), at("1", "1"), at("0", "1")
	return [][]api.Point{
		{a, a, a}, {a, a, b}, {a, b, a}, {a, b, b}, {a, b, at("2", "0")}, {a, at("2", "0"), b},
		// Clockwise.
		{a, c, b}, {a, d, c, b}, {d, c, b, a},
		// A corner twice, the whole polygon twice.
		{a, b, c, c}, {a, b, c, a}, {a, a, b, c}, {a, b, c, a, b, c}, {a, b, c, d, a}, {a, b, c, d, a, b, c, d}, {a, b, a, b}, {a, a, a, a},
		// A corner on an edge.
		{a, at("1/2", "0"), b, c}, {a, b, c, at("1/2", "1/2")}, {a, b, c, at("1/2", "1"), d}, {at("1/2", "0"), b, c, a},
		// A corner within the others, crossing edges, a star.
		{a, b, at("1/4", "1/4"), d}, {a, b, d, c}, {a, c, b, d}, {a, b, c, at("3/4", "1/2")}, {at("0", "3"), at("-2", "-3"), at("3", "1"), at("-3", "1"), at("2", "-3")},
		// A pentagon with one corner moved too far.
		{a, b, c, at("1/2", "1"), at("0", "2")}, {a, b, c, at("1/2", "3"), at("0", "5")},
	}
}

// badMaskLists returns lists of masks with an error.
func badMaskLists() []bad[[][]api.Point] {
	l := []bad[[][]api.Point]{
		{make([][]api.Point, 9), api.ErrMany}, {slices.Repeat(oneMask(), 9), api.ErrMany}, {[][]api.Point{nil}, api.ErrShape}, {make([][]api.Point, 8), api.ErrShape},
		{[][]api.Point{unitMask(), noPolygons()[0], nil}, api.ErrRule}, {[][]api.Point{unitMask(), nil, noPolygons()[0]}, api.ErrShape},
	}
	for _, b := range badMasks() {
		l = append(l, bad[[][]api.Point]{[][]api.Point{b.argument}, b.e}, bad[[][]api.Point]{append(slices.Repeat(oneMask(), 7), b.argument), b.e})
	}
	return l
}

// anyFloat returns a float of any size that is finite.
func anyFloat(r *rand.Rand) float32 {
	for {
		f := math.Float32frombits(r.Uint32())
		if d := f - f; d == 0 {
			return f
		}
	}
}

// anySamples returns n samples: floats of any size, fractions, or small integers and halves.
func anySamples(r *rand.Rand, n int) []float32 {
	kind := r.Intn(5)
	samples := make([]float32, n)
	for i := range samples {
		switch kind {
		case 0:
			samples[i] = anyFloat(r)
		case 1:
			samples[i] = float32(r.NormFloat64())
		default:
			samples[i] = float32(r.Intn(13)-6) / 2
		}
		if r.Intn(9) == 0 {
			samples[i] = negativeZero()
		}
	}
	return samples
}

// anyNumber returns a small number.
func anyNumber(r *rand.Rand) *big.Rat { return fraction(r.Int63n(41)-20, 1+r.Int63n(6)) }

// positive returns a small number above 0.
func positive(r *rand.Rand) *big.Rat { return fraction(1+r.Int63n(20), 1+r.Int63n(6)) }

// anyClock returns a clock with small numbers.
func anyClock(r *rand.Rand) eye.Clock { return clock(anyNumber(r), positive(r)) }

// largeNumber returns a number from 0 to 1 with a denominator of n digits, and nearly as many in its numerator.
func largeNumber(r *rand.Rand, n int) *big.Rat {
	limit := new(big.Int).Exp(big.NewInt(10), big.NewInt(int64(n-1)), nil)
	bottom := new(big.Int).Add(limit, new(big.Int).Rand(r, limit))
	return new(big.Rat).SetFrac(new(big.Int).Rand(r, limit), bottom)
}

// same reports a result or an error that differs from the expected one.
func same[T comparable](t *testing.T, what string, got T, gotError api.Errno, wanted T, wantedError api.Errno) {
	t.Helper()
	if got != wanted || gotError != wantedError {
		t.Errorf("%s: got %v, %d, want %v, %d", what, got, gotError, wanted, wantedError)
	}
}

// sameList reports a list or an error that differs from the expected one; nil and empty lists are equal.
func sameList[T comparable](t *testing.T, what string, got []T, gotError api.Errno, wanted []T, wantedError api.Errno) {
	t.Helper()
	if !slices.Equal(got, wanted) || gotError != wantedError {
		t.Errorf("%s: got %v, %d, want %v, %d", what, got, gotError, wanted, wantedError)
	}
}

// sameEye reports a diagram or an error that differs from the expected one.
func sameEye(t *testing.T, what string, got eye.Eye, gotError api.Errno, wanted eye.Eye, wantedError api.Errno) {
	t.Helper()
	if !slices.EqualFunc(got.Cells, wanted.Cells, slices.Equal) || got.Outside != wanted.Outside || gotError != wantedError {
		t.Errorf("%s: got %v, %d, want %v, %d", what, got, gotError, wanted, wantedError)
	}
}

// isError reports an error that differs from the expected one.
func isError(t *testing.T, what string, got, wanted api.Errno) {
	t.Helper()
	if got != wanted {
		t.Errorf("%s: got the error %d, want %d", what, got, wanted)
	}
}

// decided reports errors that no random argument has had.
func decided(t *testing.T, what string, found map[api.Errno]int, wanted ...api.Errno) {
	t.Helper()
	for _, e := range wanted {
		if found[e] < 5 {
			t.Errorf("%s: the arguments decide too little: %v", what, found)
		}
	}
}

// unchanged reports a list that a function has changed.
func unchanged[T comparable](t *testing.T, l []T, call func([]T)) {
	t.Helper()
	before := slices.Clone(l)
	call(l)
	if !slices.Equal(l, before) {
		t.Errorf("the list %v has become %v", before, l)
	}
}
