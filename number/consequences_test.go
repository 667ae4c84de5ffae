package number_test

import (
	"math"
	"math/big"
	"slices"
	"testing"

	"strobe/api"
	"strobe/number"
)

// member returns a member of a span: an end, or a number between.
func member(s api.Span, part int64) *big.Rat {
	low, high := value(s.Low), value(s.High)
	x := new(big.Rat).Sub(high, low)
	return x.Add(x.Mul(x, big.NewRat(part, 8)), low)
}

// P1.6: the result of an operation on members of two spans is a member of the resulting span.
func TestMembersOfSpans(t *testing.T) {
	r := source(12)
	for range 300 {
		a, b := randomSpan(r, 30), randomSpan(r, 30)
		for _, o := range spanOperations() {
			s, e := o.got(a, b)
			if e != api.OK {
				continue
			}
			for part := range int64(9) {
				x, y := member(a, part), member(b, r.Int63n(9))
				if !contains(s, o.reference(x, y)) {
					t.Errorf("%s %v %v: %v has no %s", o.name, a, b, s, o.reference(x, y))
				}
			}
		}
	}
}

// P1.6: the root of a number lies in its span, and roots keep the order.
func TestRootsEnclose(t *testing.T) {
	r := source(13)
	for range 500 {
		x := randomRat(r, 60)
		x.Abs(x)
		a := api.Rat(x.RatString())
		s := mustSpan(t, "Root", first(number.Root(a)), second(number.Root(a)))
		square := mustSpan(t, "Times", first(number.Times(s, s)), second(number.Times(s, s)))
		if !contains(square, x) {
			t.Errorf("Root %s: the square of %v does not contain it", a, s)
		}
	}
}

// P1.6: cosines with more decimals are nested, and the squares of cosine and sine enclose 1 together.
func TestNestedCosines(t *testing.T) {
	r := source(14)
	for i := range 200 {
		den := 1 + r.Int63n([]int64{30, 1000, api.MaxNumber}[i%3])
		a := api.Rat(big.NewRat(r.Int63n(2*den)-den, den).RatString())
		outerCos, outerSin := span("-1", "1"), span("-1", "1")
		for k := 1; k <= number.MaxDecimals; k++ {
			c := mustSpan(t, "Cos", first(number.Cos(a, k)), second(number.Cos(a, k)))
			s := mustSpan(t, "Sin", first(number.Sin(a, k)), second(number.Sin(a, k)))
			if !within(c, outerCos) || !within(s, outerSin) {
				t.Errorf("the spans of %s with %d decimals are not nested", a, k)
			}
			outerCos, outerSin = c, s
			square, other := first(number.Times(c, c)), first(number.Times(s, s))
			if sum := first(number.Plus(square, other)); !contains(sum, big.NewRat(1, 1)) {
				t.Errorf("the squares of %s with %d decimals have the sum %v", a, k, sum)
			}
		}
	}
}

// P1.6: a float is the nearest float to its own exact value.
func TestFloatsOfExactValues(t *testing.T) {
	for _, f := range floats() {
		a, e := number.Exact(f)
		g, e2 := number.Float(a)
		expect(t, "Float of Exact "+string(a), g, firstError(e, e2), f, api.OK)
	}
}

// P1.6: rounding preserves the order, and its error is at most half the distance of the floats around the number.
func TestRounding(t *testing.T) {
	r := source(15)
	for i := range 1500 {
		x := randomRat(r, []int{40, 120, 170}[i%3])
		y := new(big.Rat).Add(x, new(big.Rat).Abs(randomRat(r, 170)))
		f, e := number.Float(api.Rat(x.RatString()))
		g, e2 := number.Float(api.Rat(y.RatString()))
		if firstError(e, e2) == api.OK && f > g {
			t.Errorf("%s rounds to %g, %s rounds to %g", x.RatString(), f, y.RatString(), g)
		}
		if e == api.OK {
			checkRoundingError(t, x, f)
		}
	}
}

// checkRoundingError compares the distance of a float from a number with those of the floats next to it.
func checkRoundingError(t *testing.T, x *big.Rat, f float32) {
	t.Helper()
	distance := func(g float32) *big.Rat {
		d := new(big.Rat).Sub(x, new(big.Rat).SetFloat64(float64(g)))
		return d.Abs(d)
	}
	for _, end := range []float64{math.Inf(-1), math.Inf(1)} {
		next := math.Nextafter32(f, float32(end))
		if !math.IsInf(float64(next), 0) && distance(next).Cmp(distance(f)) < 0 {
			t.Errorf("%s: %g is nearer than %g", x.RatString(), next, f)
		}
	}
}

// P1.6: the value of a table lies between the two breakpoints next to x.
func TestTablesBetweenBreakpoints(t *testing.T) {
	table := []api.Point{{X: "-3", Y: "7/3"}, {X: "-1/2", Y: "-9"}, {X: "0", Y: "-9"}, {X: "22/7", Y: "1000000"}, {X: "4", Y: "0"}}
	for i := range len(table) - 1 {
		xs, ys := span(table[i].X, table[i+1].X), span(table[i].Y, table[i+1].Y)
		if number.CheckSpan(ys) == api.ErrOrder {
			ys.Low, ys.High = ys.High, ys.Low
		}
		for part := range int64(9) {
			x := member(xs, part)
			y, e := number.Blend(table, api.Rat(x.RatString()))
			if e != api.OK || !contains(ys, value(y)) {
				t.Errorf("Blend %s: got %s, %d, which is not in %v", x.RatString(), y, e, ys)
			}
		}
	}
}

// P1.6: shares add up to the total.
func TestSharesAddUp(t *testing.T) {
	r := source(16)
	for range 500 {
		weights := make([]int, 1+r.Intn(256))
		for i := range weights {
			weights[i] = r.Intn(1 + r.Intn(api.MaxNumber))
		}
		weights[0]++
		total, sum := r.Intn(api.MaxNumber+1), 0
		l, e := number.Shares(total, weights)
		for i, share := range l {
			sum += share
			if weights[i] == 0 && share != 0 {
				t.Errorf("the weight 0 has the share %d", share)
			}
		}
		if e != api.OK || sum != total {
			t.Errorf("the shares of %d add up to %d (%d)", total, sum, e)
		}
	}
}

// P1.6: a permutation contains each element once.
func TestPermutations(t *testing.T) {
	r := source(17)
	for range 500 {
		key, n := 1+r.Intn(2147483398), r.Intn(257)
		l, e := number.Draw(key, n)
		sorted := slices.Sorted(slices.Values(l))
		for i, x := range sorted {
			if x != i {
				t.Fatalf("Draw %d %d: got %v", key, n, l)
			}
		}
		if e != api.OK || len(l) != n {
			t.Errorf("Draw %d %d has %d elements (%d)", key, n, len(l), e)
		}
	}
}

// Results share no memory with each other, and calls with equal arguments have equal results.
func TestResultsAreNew(t *testing.T) {
	a, _ := number.Draw(5, 10)
	kept := slices.Clone(a)
	b, _ := number.Draw(5, 10)
	clear(b)
	if !slices.Equal(a, kept) {
		t.Error("two permutations share memory")
	}
	if c, _ := number.Draw(5, 10); !slices.Equal(c, kept) {
		t.Error("a permutation depends on earlier calls")
	}
	weights := []int{1, 2, 3}
	shares, _ := number.Shares(6, weights)
	shares[0] = 9
	if weights[0] != 1 {
		t.Error("shares and weights share memory")
	}
}

// Every function has a result for arguments of any form, and zero values beside an error.
func TestArgumentsOfAnyForm(t *testing.T) {
	ugly := append(invalidNumbers(), "0", "-1", "1/2")
	for _, a := range ugly {
		e := referenceCheck(a)
		if e == api.OK {
			continue
		}
		floor, e1 := number.Floor(a)
		root, e2 := number.Root(a)
		cosine, e3 := number.Cos(a, 0)
		sine, e4 := number.Sin(a, 99)
		float, e5 := number.Float(a)
		blend, e6 := number.Blend(steps(3), a)
		if floor != "" || root != (api.Span{}) || cosine != (api.Span{}) || sine != (api.Span{}) || float != 0 || blend != "" {
			t.Errorf("%q has results beside an error", brief(string(a)))
		}
		if got := []api.Errno{e1, e2, e3, e4, e5, e6}; !slices.Equal(got, slices.Repeat([]api.Errno{e}, 6)) {
			t.Errorf("%q: got the errors %v, want %d", brief(string(a)), got, e)
		}
		for _, b := range ugly {
			s, other := span(a, b), span(b, a)
			expect(t, "CheckSpan", 0, number.CheckSpan(s), 0, referenceSpan(s))
			compareSpanOperations(t, s, other)
		}
	}
}
