package number_test

import (
	"math"
	"math/big"
	"slices"
	"strconv"
	"testing"

	"strobe/api"
	"strobe/number"
)

// steps returns a table of n breakpoints.
func steps(n int) []api.Point {
	l := make([]api.Point, n)
	for i := range l {
		l[i] = api.Point{X: api.Rat(strconv.Itoa(i - 5)), Y: api.Rat(strconv.Itoa(i * i % 7))}
	}
	return l
}

// P1.5: the errors of tables.
func TestCheckTable(t *testing.T) {
	large := api.Rat(nines(601))
	for _, row := range []struct {
		t []api.Point
		e api.Errno
	}{
		{nil, api.ErrEmpty}, {[]api.Point{}, api.ErrEmpty}, {steps(1), api.OK}, {steps(2), api.OK}, {steps(64), api.OK}, {steps(65), api.ErrMany}, {make([]api.Point, 65), api.ErrMany}, {make([]api.Point, 64), api.ErrForm},
		{[]api.Point{{X: "1", Y: "1"}, {X: "1", Y: "2"}}, api.ErrOrder}, {[]api.Point{{X: "1", Y: "1"}, {X: "1/2", Y: "2"}}, api.ErrOrder}, {[]api.Point{{X: "-1", Y: "1"}, {X: "-1/2", Y: "1"}}, api.OK}, {[]api.Point{{X: "1", Y: "1"}, {X: "3", Y: "1"}, {X: "2", Y: "1"}}, api.ErrOrder},
		{[]api.Point{{X: "x", Y: large}}, api.ErrForm}, {[]api.Point{{X: large, Y: "x"}}, api.ErrLarge}, {[]api.Point{{X: "1", Y: "x"}}, api.ErrForm}, {[]api.Point{{X: "1", Y: large}}, api.ErrLarge},
		// The first breakpoint with an error decides, and the order comes last of its errors.
		{[]api.Point{{X: "1", Y: "1"}, {X: "0", Y: large}}, api.ErrLarge}, {[]api.Point{{X: "1", Y: "1"}, {X: "0", Y: "0"}, {X: "x", Y: "0"}}, api.ErrOrder}, {[]api.Point{{X: "1", Y: "1"}, {X: large, Y: "0"}, {X: "x", Y: "0"}}, api.ErrLarge}, {[]api.Point{{X: "1", Y: "1"}, {X: "x", Y: "1"}, {X: "0", Y: "1"}}, api.ErrForm},
	} {
		expect(t, "CheckTable", 0, number.CheckTable(row.t), 0, row.e)
		if row.e != api.OK {
			// The errors of the table come before those of x.
			y, e := number.Blend(row.t, "")
			expect(t, "Blend", y, e, "", row.e)
		}
	}
}

// P1.5: values of tables.
func TestBlend(t *testing.T) {
	table := []api.Point{{X: "0", Y: "10"}, {X: "5", Y: "20"}, {X: "6", Y: "0"}, {X: "13/2", Y: "0"}, {X: "7", Y: "-1/3"}}
	for _, row := range []struct {
		x, y api.Rat
		e    api.Errno
	}{
		{"0", "10", api.OK}, {"2", "14", api.OK}, {"5", "20", api.OK}, {"23/4", "5", api.OK}, {"6", "0", api.OK}, {"25/4", "0", api.OK}, {"27/4", "-1/6", api.OK}, {"7", "-1/3", api.OK}, {"1/3", "32/3", api.OK},
		{"-1/2", "", api.ErrRange}, {"-1/999999999", "", api.ErrRange}, {"8", "", api.ErrRange}, {"7000000001/1000000000", "", api.ErrRange}, {"", "", api.ErrForm}, {"2/4", "", api.ErrForm}, {api.Rat(nines(601)), "", api.ErrLarge}, {api.Rat(nines(600)), "", api.ErrRange},
	} {
		y, e := number.Blend(table, row.x)
		expect(t, "Blend "+string(row.x), y, e, row.y, row.e)
	}
	single := []api.Point{{X: "1/2", Y: "-3"}}
	for _, row := range []struct {
		x, y api.Rat
		e    api.Errno
	}{{"1/2", "-3", api.OK}, {"1/3", "", api.ErrRange}, {"1", "", api.ErrRange}} {
		y, e := number.Blend(single, row.x)
		expect(t, "Blend "+string(row.x), y, e, row.y, row.e)
	}
}

// P1.5: values with too many digits, and values that have them only on the way.
func TestBlendSizes(t *testing.T) {
	steep := []api.Point{{X: "0", Y: "0"}, {X: "1", Y: api.Rat(nines(600))}}
	y, e := number.Blend(steep, "1/10")
	expect(t, "Blend", y, e, api.Rat(nines(600)+"/10"), api.OK)
	y, e = number.Blend(steep, api.Rat("1/"+power(599)))
	expect(t, "Blend", y, e, api.Rat(nines(600)+"/"+power(599)), api.OK)
	y, e = number.Blend([]api.Point{{X: "0", Y: "0"}, {X: "3", Y: api.Rat("1/" + power(599))}}, "1/7")
	expect(t, "Blend", y, e, "", api.ErrLarge)
	wide := []api.Point{{X: api.Rat("-" + nines(600)), Y: api.Rat("-" + nines(600))}, {X: api.Rat(nines(600)), Y: api.Rat(nines(600))}}
	y, e = number.Blend(wide, "1/3")
	expect(t, "Blend", y, e, "1/3", api.OK)
}

func TestBlendOfRandomTables(t *testing.T) {
	r := source(10)
	for range 300 {
		n := 2 + r.Intn(8)
		xs := make([]*big.Rat, n)
		for i := range xs {
			xs[i] = new(big.Rat).Add(randomRat(r, 20), big.NewRat(int64(i)<<21, 1))
		}
		table := make([]api.Point, n)
		for i, x := range xs {
			table[i] = api.Point{X: api.Rat(x.RatString()), Y: api.Rat(randomRat(r, 40).RatString())}
		}
		i, part := r.Intn(n-1), new(big.Rat).Abs(big.NewRat(r.Int63n(100), 100))
		x := new(big.Rat).Sub(xs[i+1], xs[i])
		x.Add(x.Mul(x, part), xs[i])
		left, right := value(table[i].Y), value(table[i+1].Y)
		wanted := new(big.Rat).Sub(right, left)
		wanted.Add(wanted.Mul(wanted, part), left)
		y, e := number.Blend(table, api.Rat(x.RatString()))
		expect(t, "Blend", y, e, api.Rat(wanted.RatString()), api.OK)
	}
}

// referenceShares gives the rest, one by one, to the greatest remainder that is left.
func referenceShares(total int, weights []int) []int {
	sum := new(big.Int)
	for _, w := range weights {
		sum.Add(sum, big.NewInt(int64(w)))
	}
	shares, remainders, rest := make([]int, len(weights)), make([]*big.Int, len(weights)), total
	for i, w := range weights {
		product := new(big.Int).Mul(big.NewInt(int64(total)), big.NewInt(int64(w)))
		quotient, remainder := product.QuoRem(product, sum, new(big.Int))
		shares[i], remainders[i] = int(quotient.Int64()), remainder
		rest -= shares[i]
	}
	for ; rest > 0; rest-- {
		best := 0
		for i, m := range remainders {
			if m.Cmp(remainders[best]) > 0 {
				best = i
			}
		}
		shares[best]++
		remainders[best] = big.NewInt(-1)
	}
	return shares
}

// P1.5: shares.
func TestShares(t *testing.T) {
	for _, row := range []struct {
		total         int
		weights, want []int
	}{
		{50, []int{1, 2, 4}, []int{7, 14, 29}}, {11, []int{1, 1, 1, 0}, []int{4, 4, 3, 0}}, {0, []int{1, 2}, []int{0, 0}}, {5, []int{3}, []int{5}}, {1, []int{1, 1}, []int{1, 0}}, {1, []int{0, 1, 1}, []int{0, 1, 0}}, {7, []int{0, 0, 9}, []int{0, 0, 7}}, {2, []int{1, 5, 1, 5}, []int{0, 1, 0, 1}},
		{api.MaxNumber, []int{api.MaxNumber}, []int{api.MaxNumber}}, {api.MaxNumber, []int{api.MaxNumber, api.MaxNumber}, []int{500000000, 499999999}}, {api.MaxNumber, []int{1, api.MaxNumber}, []int{1, 999999998}},
	} {
		l, e := number.Shares(row.total, row.weights)
		if e != api.OK || !slices.Equal(l, row.want) {
			t.Errorf("Shares %d %v: got %v, %d, want %v", row.total, row.weights, l, e, row.want)
		}
	}
}

// P1.5: the errors of shares: the total, then the weights.
func TestSharesErrors(t *testing.T) {
	many := make([]int, 257)
	many[0] = -1
	for _, row := range []struct {
		total   int
		weights []int
		e       api.Errno
	}{
		{-1, []int{1}, api.ErrRange}, {api.MaxNumber + 1, []int{1}, api.ErrRange}, {math.MinInt, nil, api.ErrRange}, {math.MaxInt, many, api.ErrRange}, {-1, []int{0}, api.ErrRange},
		{1, nil, api.ErrEmpty}, {1, []int{}, api.ErrEmpty}, {1, many, api.ErrMany}, {1, make([]int, 257), api.ErrMany}, {1, many[:256], api.ErrRange}, {1, []int{0, -1}, api.ErrRange}, {1, []int{1, api.MaxNumber + 1}, api.ErrRange}, {1, []int{1, math.MinInt}, api.ErrRange}, {1, []int{math.MaxInt}, api.ErrRange}, {1, []int{0}, api.ErrZero}, {0, make([]int, 256), api.ErrZero},
	} {
		l, e := number.Shares(row.total, row.weights)
		if e != row.e || len(l) != 0 {
			t.Errorf("Shares %d: got %v, %d, want %d", row.total, l, e, row.e)
		}
	}
}

func TestSharesByDefinition(t *testing.T) {
	r := source(11)
	for i := range 600 {
		limit := []int{2, 5, 1000, api.MaxNumber + 1}[i%4]
		weights := make([]int, 1+r.Intn([]int{4, 256}[i%2]))
		for j := range weights {
			weights[j] = r.Intn(limit)
		}
		weights[r.Intn(len(weights))] = limit - 1
		total := r.Intn([]int{10, 1000, api.MaxNumber + 1}[i%3])
		before := slices.Clone(weights)
		l, e := number.Shares(total, weights)
		if wanted := referenceShares(total, weights); e != api.OK || !slices.Equal(l, wanted) {
			t.Errorf("Shares %d %v: got %v, %d, want %v", total, weights, l, e, wanted)
		}
		if !slices.Equal(weights, before) {
			t.Errorf("Shares has changed its weights")
		}
	}
	// The greatest products of all.
	weights := slices.Repeat([]int{api.MaxNumber}, 256)
	l, e := number.Shares(api.MaxNumber, weights)
	if e != api.OK || !slices.Equal(l, referenceShares(api.MaxNumber, weights)) {
		t.Errorf("Shares of the greatest weights: got %v, %d", l, e)
	}
}

// referenceDraw returns the permutation by its definition, with integers of any size.
func referenceDraw(key, n int) []int {
	l := make([]int, 0, n)
	for i := range n {
		l = append(l, i)
	}
	x, modulus := big.NewInt(int64(key)), big.NewInt(2147483399)
	for i := n - 1; i >= 1; i-- {
		x.Mul(x, big.NewInt(40692))
		x.Mod(x, modulus)
		j := int(new(big.Int).Mod(x, big.NewInt(int64(i+1))).Int64())
		l[i], l[j] = l[j], l[i]
	}
	return l
}

// P1.5: permutations.
func TestDraw(t *testing.T) {
	for _, row := range []struct {
		key, n int
		want   []int
	}{{1, 3, []int{1, 2, 0}}, {1, 1, []int{0}}, {1, 0, nil}, {2147483398, 0, nil}, {2147483398, 2, []int{0, 1}}} {
		l, e := number.Draw(row.key, row.n)
		if e != api.OK || !slices.Equal(l, row.want) {
			t.Errorf("Draw %d %d: got %v, %d, want %v", row.key, row.n, l, e, row.want)
		}
	}
	for _, row := range [][2]int{{0, 3}, {-1, 3}, {2147483399, 3}, {math.MaxInt, 3}, {math.MinInt, 3}, {1, -1}, {1, 257}, {1, math.MinInt}, {1, math.MaxInt}, {0, -1}} {
		l, e := number.Draw(row[0], row[1])
		if e != api.ErrRange || len(l) != 0 {
			t.Errorf("Draw %v: got %v, %d", row, l, e)
		}
	}
	for _, key := range []int{1, 2, 3, 40692, 52774, 123456789, 2147483397, 2147483398} {
		for n := 0; n <= 256; n++ {
			l, e := number.Draw(key, n)
			if e != api.OK || !slices.Equal(l, referenceDraw(key, n)) {
				t.Errorf("Draw %d %d: got %v, %d", key, n, l, e)
			}
		}
	}
}
