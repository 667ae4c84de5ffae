package rational_test

import (
	"math"
	"math/big"
	"math/rand"
	"slices"
	"testing"

	"strobe/api"
	"strobe/rational"
)

// samples returns numbers of all kinds.
func samples(r *rand.Rand) []api.Rat {
	l := []api.Rat{"0", "1", "-1", "1/2", "-1/2", "7/3", "-7/3", "999999999", "1000000000", "-999999999", "999999999/2", nines(600), "-" + nines(600), "1/" + nines(600), "-1/" + nines(600)}
	for i := range 200 {
		l = append(l, randomRat(r, []int{2, 10, 50, 300}[i%4]))
	}
	return l
}

func TestOf(t *testing.T) {
	for _, n := range []int{0, 1, -1, 999999999, 1000000000, -1000000001, 999999999999999999, 1000000000000000000, math.MaxInt, math.MinInt} {
		check(t, "Of", rational.Of(n), new(big.Rat).SetInt64(int64(n)))
	}
}

func TestExact(t *testing.T) {
	for _, f := range []float32{0, float32(math.Copysign(0, -1)), 1, -0.75, math.MaxFloat32, -math.MaxFloat32, math.SmallestNonzeroFloat32} {
		check(t, "Exact", rational.Exact(f), new(big.Rat).SetFloat64(float64(f)))
	}
	for _, f := range []float32{float32(math.NaN()), float32(math.Inf(1)), float32(math.Inf(-1))} {
		if text, e := rational.Exact(f).Write(); text != "" || e != api.ErrZero {
			t.Errorf("Exact %g: got %s, %d", f, text, e)
		}
	}
}

func TestReadSigned(t *testing.T) {
	for _, row := range []struct {
		a     api.Rat
		least int
		e     api.Errno
	}{
		{"0", 0, api.OK}, {"1/2", 0, api.OK}, {"-1/2", 0, api.ErrRange}, {"0", 1, api.ErrRange}, {"1/2", 1, api.OK}, {"-1", 1, api.ErrRange}, {"-1", -1, api.OK},
		{"x", 1, api.ErrForm}, {"-0", 1, api.ErrForm}, {"-" + nines(601), 0, api.ErrLarge},
	} {
		x, e := rational.ReadSigned(row.a, row.least)
		text, none := x.Write()
		if e != row.e || e == api.OK && text != row.a || e != api.OK && none != api.ErrZero {
			t.Errorf("ReadSigned %s, %d: got %s, %d, want %d", row.a, row.least, text, e, row.e)
		}
	}
}

func TestLists(t *testing.T) {
	texts := []api.Rat{"1/2", "-3", "0"}
	values, e := rational.ReadAll(texts)
	if len(values) != 3 || e != api.OK {
		t.Fatalf("ReadAll: got %d values, %d", len(values), e)
	}
	again, e := rational.WriteAll(values)
	if !slices.Equal(again, texts) || e != api.OK {
		t.Errorf("WriteAll: got %v, %d", again, e)
	}
	values, e = rational.ReadAll([]api.Rat{"1", nines(601), "x"})
	if values != nil || e != api.ErrLarge {
		t.Errorf("ReadAll: got %v, %d", values, e)
	}
	large, _ := read(t, nines(600))
	again, e = rational.WriteAll([]rational.Number{rational.Of(1), large.Times(large), rational.Number{}})
	if again != nil || e != api.ErrLarge {
		t.Errorf("WriteAll: got %v, %d", again, e)
	}
	values, e = rational.ReadAll(nil)
	if len(values) != 0 || e != api.OK {
		t.Errorf("ReadAll: got %v, %d", values, e)
	}
}

// checkParts compares what is made of one number with math/big.
func checkParts(t *testing.T, a api.Rat) {
	t.Helper()
	x, y := read(t, a)
	check(t, "Negated "+string(a), x.Negated(), new(big.Rat).Neg(y))
	check(t, "Magnitude "+string(a), x.Magnitude(), new(big.Rat).Abs(y))
	check(t, "Denominator "+string(a), x.Denominator(), new(big.Rat).SetInt(y.Denom()))
	floor := new(big.Int).Div(y.Num(), y.Denom())
	check(t, "Floor "+string(a), x.Floor(), new(big.Rat).SetInt(floor))
	isSmall := y.IsInt() && y.Sign() >= 0 && y.Cmp(big.NewRat(api.MaxNumber, 1)) <= 0
	n, ok := x.Int()
	if ok != isSmall || ok && big.NewInt(int64(n)).Cmp(floor) != 0 || !ok && n != 0 {
		t.Errorf("Int %s: got %d, %v", a, n, ok)
	}
}

func TestParts(t *testing.T) {
	r := rand.New(rand.NewSource(4))
	l := samples(r)
	for _, a := range l {
		checkParts(t, a)
		b := l[r.Intn(len(l))]
		x, v := read(t, a)
		y, w := read(t, b)
		if got := x.Compare(y); got != v.Cmp(w) || x.Compare(x) != 0 {
			t.Errorf("Compare %s, %s: got %d", a, b, got)
		}
	}
}

func TestFloorOver(t *testing.T) {
	r := rand.New(rand.NewSource(8))
	l := samples(r)
	for _, a := range l {
		for range 5 {
			b := l[r.Intn(len(l))]
			x, v := read(t, a)
			y, w := read(t, b)
			if w.Sign() == 0 {
				if text, e := x.FloorOver(y).Write(); text != "" || e != api.ErrZero {
					t.Errorf("FloorOver %s, 0: got %s, %d", a, text, e)
				}
				continue
			}
			quotient := new(big.Rat).Quo(v, w)
			check(t, "FloorOver "+string(a)+", "+string(b), x.FloorOver(y), new(big.Rat).SetInt(new(big.Int).Div(quotient.Num(), quotient.Denom())))
		}
	}
	three, none := rational.Of(3), rational.Number{}
	for a, wanted := range map[int]api.Rat{-7: "-3", -6: "-2", -1: "-1", 0: "0", 2: "0", 3: "1", 8: "2"} {
		if text, e := rational.Of(a).FloorOver(three).Write(); text != wanted || e != api.OK {
			t.Errorf("FloorOver %d, 3: got %s, %d", a, text, e)
		}
	}
	for _, x := range []rational.Number{none.FloorOver(three), three.FloorOver(none), none.FloorOver(none)} {
		if text, e := x.Write(); text != "" || e != api.ErrZero {
			t.Errorf("FloorOver without a number: got %s, %d", text, e)
		}
	}
}

// The parts of what is no number are no numbers.
func TestNoParts(t *testing.T) {
	var none rational.Number
	for _, x := range []rational.Number{none.Negated(), none.Magnitude(), none.Denominator(), none.Floor(), rational.Of(1).Over(rational.Of(0))} {
		if text, e := x.Write(); text != "" || e != api.ErrZero {
			t.Errorf("a part of no number is %s, %d", text, e)
		}
	}
	if n, ok := none.Int(); n != 0 || ok {
		t.Errorf("Int: got %d, %v", n, ok)
	}
}

// checkNearest compares the nearest float with that of math/big, which rounds to the nearest even float32.
func checkNearest(t *testing.T, y *big.Rat) {
	t.Helper()
	x, e := rational.ReadAll([]api.Rat{api.Rat(y.Num().String()), api.Rat(y.Denom().String())})
	if e != api.OK {
		t.Fatalf("no number: %s", y)
	}
	wanted, _ := y.Float32()
	if got := x[0].Over(x[1]).Nearest(); math.Float32bits(got) != math.Float32bits(wanted+0) {
		t.Errorf("Nearest %s: got %g, want %g", y, got, wanted)
	}
}

func TestNearest(t *testing.T) {
	r := rand.New(rand.NewSource(5))
	little := new(big.Rat).SetFrac(big.NewInt(1), new(big.Int).Exp(big.NewInt(10), big.NewInt(500), nil))
	for range 500 {
		f := math.Float32frombits(r.Uint32())
		other := math.Nextafter32(f, 0)
		if d := f - f; d != 0 {
			continue
		}
		middle := new(big.Rat).Add(new(big.Rat).SetFloat64(float64(f)), new(big.Rat).SetFloat64(float64(other)))
		middle.Quo(middle, big.NewRat(2, 1))
		for _, y := range []*big.Rat{new(big.Rat).SetFloat64(float64(f)), middle} {
			checkNearest(t, y)
			checkNearest(t, new(big.Rat).Add(y, little))
			checkNearest(t, new(big.Rat).Sub(y, little))
		}
	}
	tiny := new(big.Rat).SetFloat64(math.Ldexp(1, -150))
	for _, y := range []*big.Rat{new(big.Rat), tiny, new(big.Rat).Neg(tiny), new(big.Rat).Add(tiny, little), new(big.Rat).Sub(tiny, little), little, new(big.Rat).Neg(little), new(big.Rat).SetFloat64(math.MaxFloat32)} {
		checkNearest(t, y)
	}
	for _, a := range samples(r) {
		_, y := read(t, a)
		checkNearest(t, y)
	}
}

// Numbers with more digits than a number may have are rounded, too.
func TestNearestBeyondTheLimits(t *testing.T) {
	tiny, _ := read(t, "1/"+nines(600))
	large, _ := read(t, nines(600))
	for _, row := range []struct {
		x      rational.Number
		wanted float32
	}{
		{tiny.Times(tiny), 0}, {tiny.Times(tiny).Negated(), 0}, {rational.Of(3).Plus(tiny.Times(tiny)), 3},
		{large.Times(large), float32(math.Inf(1))}, {large.Times(large).Negated(), float32(math.Inf(-1))}, {large.Negated(), float32(math.Inf(-1))},
	} {
		if got := row.x.Nearest(); math.Float32bits(got) != math.Float32bits(row.wanted) {
			t.Errorf("Nearest: got %g, want %g", got, row.wanted)
		}
	}
}

// interval returns the interval with certain ends.
func interval(t *testing.T, low, high api.Rat) rational.Interval {
	t.Helper()
	x, e := rational.ReadSpan(api.Span{Low: low, High: high})
	if e != api.OK {
		t.Fatalf("ReadSpan %s, %s: %d", low, high, e)
	}
	return x
}

func TestIntervals(t *testing.T) {
	a, b := interval(t, "-1", "2"), interval(t, "-3", "4")
	half, _ := read(t, "1/2")
	for _, row := range []struct {
		got    rational.Interval
		wanted api.Span
	}{
		{a, api.Span{Low: "-1", High: "2"}}, {a.Plus(b), api.Span{Low: "-4", High: "6"}}, {a.Times(b), api.Span{Low: "-6", High: "8"}},
		{interval(t, "1", "2").Times(interval(t, "-5", "-1/2")), api.Span{Low: "-10", High: "-1/2"}}, {interval(t, "-2", "-1").Times(interval(t, "-5", "-3")), api.Span{Low: "3", High: "10"}},
		{rational.Around(half, rational.Of(2)), api.Span{Low: "-3/2", High: "5/2"}}, {rational.Around(half, rational.Of(0)), api.Span{Low: "1/2", High: "1/2"}},
		{rational.Enclosing(half), api.Span{Low: "1/2", High: "1/2"}}, {rational.Enclosing(half, rational.Of(2), rational.Of(-3), rational.Of(1)), api.Span{Low: "-3", High: "2"}},
	} {
		if got, e := row.got.Write(); got != row.wanted || e != api.OK {
			t.Errorf("got %v, %d, want %v", got, e, row.wanted)
		}
	}
}

func TestNegatedAndScaledIntervals(t *testing.T) {
	a, b := interval(t, "-1", "2"), interval(t, "-3", "-1/2")
	half, _ := read(t, "1/2")
	for _, row := range []struct {
		got    rational.Interval
		wanted api.Span
	}{
		{a.Negated(), api.Span{Low: "-2", High: "1"}}, {b.Negated(), api.Span{Low: "1/2", High: "3"}},
		{a.Scaled(half), api.Span{Low: "-1/2", High: "1"}}, {a.Scaled(half.Negated()), api.Span{Low: "-1", High: "1/2"}}, {a.Scaled(rational.Of(0)), api.Span{Low: "0", High: "0"}},
		{a.Magnitude(), api.Span{Low: "0", High: "2"}}, {interval(t, "-2", "1").Magnitude(), api.Span{Low: "0", High: "2"}}, {b.Magnitude(), api.Span{Low: "1/2", High: "3"}},
		{interval(t, "1/2", "3").Magnitude(), api.Span{Low: "1/2", High: "3"}}, {interval(t, "-3", "0").Magnitude(), api.Span{Low: "0", High: "3"}}, {interval(t, "0", "3").Magnitude(), api.Span{Low: "0", High: "3"}},
		{a.Square(), api.Span{Low: "0", High: "4"}}, {b.Square(), api.Span{Low: "1/4", High: "9"}}, {interval(t, "1/2", "3").Square(), api.Span{Low: "1/4", High: "9"}}, {interval(t, "0", "0").Square(), api.Span{Low: "0", High: "0"}},
	} {
		if got, e := row.got.Write(); got != row.wanted || e != api.OK {
			t.Errorf("got %v, %d, want %v", got, e, row.wanted)
		}
	}
}

func TestContains(t *testing.T) {
	a := interval(t, "-1", "2")
	for _, row := range []struct {
		low, high api.Rat
		wanted    bool
	}{{"-1", "2", true}, {"0", "1", true}, {"2", "2", true}, {"-1", "-1", true}, {"-2", "1", false}, {"0", "3", false}, {"-3/2", "5/2", false}, {"3", "4", false}, {"-3", "-2", false}, {"1", "20000001/10000000", false}} {
		if got := a.Contains(interval(t, row.low, row.high)); got != row.wanted {
			t.Errorf("Contains %s, %s: got %v", row.low, row.high, got)
		}
	}
}

func TestIntervalErrors(t *testing.T) {
	for _, row := range []struct {
		s api.Span
		e api.Errno
	}{{api.Span{}, api.ErrForm}, {api.Span{Low: nines(601), High: "x"}, api.ErrLarge}, {api.Span{Low: "1", High: "x"}, api.ErrForm}, {api.Span{Low: "2", High: "1"}, api.ErrOrder}} {
		x, e := rational.ReadSpan(row.s)
		if text, none := x.Write(); e != row.e || text != (api.Span{}) || none != api.ErrZero {
			t.Errorf("ReadSpan %v: got %v, %d, want %d", row.s, text, e, row.e)
		}
	}
	large := interval(t, "1", nines(600))
	if s, e := large.Times(large).Write(); s != (api.Span{}) || e != api.ErrLarge {
		t.Errorf("Write: got %v, %d", s, e)
	}
}

// The common divisors of numbers with one, two and more words take different ways.
func TestCommonDivisors(t *testing.T) {
	r := rand.New(rand.NewSource(6))
	words := func(n int) *big.Int {
		x := new(big.Int).Rand(r, new(big.Int).Exp(big.NewInt(10), big.NewInt(int64(9*n)), nil))
		return x.Add(x, big.NewInt(1))
	}
	for i := range 3000 {
		common := words(1 + i%4)
		a := new(big.Rat).SetFrac(words(1+r.Intn(4)), new(big.Int).Mul(common, words(1+r.Intn(3))))
		b := new(big.Rat).SetFrac(new(big.Int).Mul(common, words(r.Intn(3))), words(1+r.Intn(4)))
		checkOperations(t, api.Rat(a.RatString()), api.Rat(b.RatString()))
		c := new(big.Rat).SetFrac(words(2), new(big.Int).Mul(common, words(1)))
		checkOperations(t, api.Rat(a.RatString()), api.Rat(c.RatString()))
		checkOperations(t, api.Rat(a.RatString()), api.Rat(new(big.Rat).Neg(a).RatString()))
	}
}

// Euclid's algorithm takes many steps at once where both numbers have more than two words: their leading words may
// be equal, tell no step, or tell wrong ones.
func TestLongCommonDivisors(t *testing.T) {
	r := rand.New(rand.NewSource(7))
	power := func(n int) *big.Int { return new(big.Int).Exp(big.NewInt(10), big.NewInt(int64(n)), nil) }
	number := func() *big.Int {
		n := 1 + r.Intn(150)
		x := new(big.Int).Rand(r, power(n))
		switch r.Intn(4) {
		case 0:
			// Nearly a power of 10.
			x.Add(power(n), big.NewInt(r.Int63n(5)-2))
		case 1:
			// Consecutive Fibonacci numbers have quotients of 1 only.
			a, b := big.NewInt(1), big.NewInt(1+r.Int63n(2))
			for range r.Intn(600) {
				a, b = b, a.Add(a, b)
			}
			x = b
		}
		return x.Add(x, big.NewInt(2))
	}
	for range 4000 {
		common, top, bottom := number(), number(), number()
		if r.Intn(3) == 0 {
			bottom.Add(new(big.Int).Mul(top, big.NewInt(r.Int63n(3))), number())
		}
		a := new(big.Rat).SetFrac(top, common)
		b := new(big.Rat).SetFrac(common, bottom)
		checkOperations(t, api.Rat(a.RatString()), api.Rat(b.RatString()))
		checkOperations(t, api.Rat(a.RatString()), api.Rat(new(big.Rat).SetFrac(number(), new(big.Int).Mul(common, bottom)).RatString()))
	}
}

// The square of a number has the digits that the product has.
func TestSquares(t *testing.T) {
	for _, a := range samples(rand.New(rand.NewSource(8))) {
		x, y := read(t, a)
		check(t, "Square "+string(a), x.Square(), new(big.Rat).Mul(y, y))
	}
	if text, e := (rational.Number{}).Square().Write(); text != "" || e != api.ErrZero {
		t.Errorf("the square of no number is %s, %d", text, e)
	}
}
