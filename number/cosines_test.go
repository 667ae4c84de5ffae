package number_test

import (
	"math"
	"math/big"
	"testing"

	"strobe/api"
	"strobe/number"
)

// piDigits is pi with 200 decimals: the reference does not compute it.
const piDigits = "3.14159265358979323846264338327950288419716939937510582097494459230781640628620899862803482534211706798214808651328230664709384460955058223172535940812848111745028410270193852110555964462294895493038196"

// referenceBits is the precision of the reference: much more than the decimals of any test can need.
const referenceBits = 500

// referenceCosine returns the cosine of a turn, with an error far below 10^-100.
func referenceCosine(turn *big.Rat) *big.Float {
	within := new(big.Rat).Sub(turn, new(big.Rat).SetInt(new(big.Int).Div(turn.Num(), turn.Denom())))
	x, _ := new(big.Float).SetPrec(referenceBits).SetString(piDigits)
	x.Mul(x, new(big.Float).SetPrec(referenceBits).SetRat(within))
	x.Mul(x, big.NewFloat(2))
	square := new(big.Float).SetPrec(referenceBits).Mul(x, x)
	term := new(big.Float).SetPrec(referenceBits).SetInt64(1)
	sum := new(big.Float).SetPrec(referenceBits)
	for n := int64(1); term.Sign() != 0 && term.MantExp(nil) > -referenceBits; n += 2 {
		sum.Add(sum, term)
		term.Mul(term, square)
		term.Quo(term, new(big.Float).SetInt64(-n*(n+1)))
	}
	return sum
}

// referenceDecimals returns the span with k decimals around a cosine.
func referenceDecimals(cosine *big.Float, k int) api.Span {
	double := new(big.Float).Mul(cosine, big.NewFloat(2))
	near, _ := new(big.Float).Add(double, big.NewFloat(math.Copysign(0.5, float64(double.Sign())))).Int64()
	distance := new(big.Float).Sub(double, new(big.Float).SetInt64(near))
	if distance.Sign() == 0 || distance.MantExp(nil) < -300 {
		exact := api.Rat(big.NewRat(near, 2).RatString())
		return span(exact, exact)
	}
	scale := int64(math.Pow10(k))
	scaled := new(big.Float).Mul(cosine, new(big.Float).SetInt64(scale))
	n, _ := scaled.Int64()
	if scaled.Sign() < 0 {
		n--
	}
	return span(api.Rat(big.NewRat(n, scale).RatString()), api.Rat(big.NewRat(n+1, scale).RatString()))
}

// compareCosine compares the cosine and the sine of a turn with the reference, with k decimals.
func compareCosine(t *testing.T, turn *big.Rat, decimals ...int) {
	t.Helper()
	cosine, sine := referenceCosine(turn), referenceCosine(new(big.Rat).Sub(turn, big.NewRat(1, 4)))
	a := api.Rat(turn.RatString())
	for _, k := range decimals {
		s, e := number.Cos(a, k)
		expect(t, "Cos "+string(a), s, e, referenceDecimals(cosine, k), api.OK)
		s, e = number.Sin(a, k)
		expect(t, "Sin "+string(a), s, e, referenceDecimals(sine, k), api.OK)
	}
}

// P1.3: examples.
func TestCosineExamples(t *testing.T) {
	for _, row := range []struct {
		turn api.Rat
		k    int
		want api.Span
	}{
		{"0", 1, span("1", "1")}, {"0", 12, span("1", "1")}, {"1/6", 5, span("1/2", "1/2")}, {"1/4", 1, span("0", "0")}, {"1/3", 2, span("-1/2", "-1/2")}, {"1/2", 3, span("-1", "-1")}, {"2/3", 1, span("-1/2", "-1/2")}, {"3/4", 1, span("0", "0")}, {"5/6", 1, span("1/2", "1/2")}, {"1", 1, span("1", "1")},
		{"-2/3", 1, span("-1/2", "-1/2")}, {"-1/6", 1, span("1/2", "1/2")}, {"7/2", 1, span("-1", "-1")}, {"-1000001/4", 1, span("0", "0")},
		{"1/8", 3, span("707/1000", "177/250")}, {"3/8", 3, span("-177/250", "-707/1000")}, {"1/5", 4, span("309/1000", "3091/10000")}, {"-1/5", 4, span("309/1000", "3091/10000")}, {"6/5", 4, span("309/1000", "3091/10000")}, {"-26/5", 4, span("309/1000", "3091/10000")},
		{"1/8", 1, span("7/10", "4/5")}, {"1/12", 1, span("4/5", "9/10")}, {"1/12", 12, span("108253175473/125000000000", "173205080757/200000000000")},
		{"1/999999999", 12, span("999999999999/1000000000000", "1")}, {"500000000/999999999", 12, span("-1", "-999999999999/1000000000000")},
		{"250000000/999999999", 1, span("-1/10", "0")}, {"249999999/999999998", 8, span("0", "1/100000000")}, {"249999999/999999997", 12, span("157/100000000000", "1571/1000000000000")},
	} {
		s, e := number.Cos(row.turn, row.k)
		expect(t, "Cos "+string(row.turn), s, e, row.want, api.OK)
	}
	for _, row := range []struct {
		turn api.Rat
		k    int
		want api.Span
	}{
		{"0", 1, span("0", "0")}, {"1/12", 2, span("1/2", "1/2")}, {"1/4", 1, span("1", "1")}, {"5/12", 1, span("1/2", "1/2")}, {"1/2", 1, span("0", "0")}, {"7/12", 1, span("-1/2", "-1/2")}, {"3/4", 1, span("-1", "-1")}, {"11/12", 1, span("-1/2", "-1/2")}, {"-1/12", 1, span("-1/2", "-1/2")}, {"-1/4", 1, span("-1", "-1")},
		{"1/8", 1, span("7/10", "4/5")}, {"-1/8", 3, span("-177/250", "-707/1000")}, {"1/20", 4, span("309/1000", "3091/10000")},
		{"1/999999999", 8, span("0", "1/100000000")}, {"-1/999999999", 8, span("-1/100000000", "0")}, {"1/999999999", 12, span("6283/1000000000000", "1571/250000000000")},
	} {
		s, e := number.Sin(row.turn, row.k)
		expect(t, "Sin "+string(row.turn), s, e, row.want, api.OK)
	}
}

// P1.3: errors, in their order.
func TestCosineErrors(t *testing.T) {
	for _, row := range []struct {
		turn api.Rat
		k    int
		e    api.Errno
	}{
		{"1/5", 0, api.ErrRange}, {"1/5", 13, api.ErrRange}, {"1/5", -1, api.ErrRange}, {"1/5", math.MinInt, api.ErrRange}, {"1/5", math.MaxInt, api.ErrRange}, {"0", 0, api.ErrRange}, {"1/4", 13, api.ErrRange},
		{"1/1000000000", 3, api.ErrLarge}, {"1/1000000000", 0, api.ErrLarge}, {api.Rat("1/" + nines(600)), 3, api.ErrLarge}, {api.Rat(nines(601)), 3, api.ErrLarge},
		{"", 3, api.ErrForm}, {"2/4", 0, api.ErrForm}, {"-0", 13, api.ErrForm}, {"2/2000000000", 3, api.ErrForm},
	} {
		s, e := number.Cos(row.turn, row.k)
		expect(t, "Cos "+string(row.turn), s, e, api.Span{}, row.e)
		s, e = number.Sin(row.turn, row.k)
		expect(t, "Sin "+string(row.turn), s, e, api.Span{}, row.e)
	}
}

// P1.3: all turns with small denominators.
func TestCosinesOfSmallDenominators(t *testing.T) {
	for den := int64(1); den <= 32; den++ {
		for num := -den; num <= 2*den; num++ {
			compareCosine(t, big.NewRat(num, den), 1, 2, 3, 6, 12)
		}
	}
}

// P1.3: turns next to those with rational cosines, where the values are closest to decimals.
func TestCosinesNearExactOnes(t *testing.T) {
	for _, den := range []int64{999999999, 999999998, 999999997, 999999996, 1000003, 12345} {
		for twelfth := int64(0); twelfth <= 12; twelfth++ {
			for offset := int64(-3); offset <= 3; offset++ {
				compareCosine(t, big.NewRat(den*twelfth/12+offset, den), 1, 8, 9, 12)
			}
		}
	}
}

// P1.3: random turns; some of them need more than the first precision.
func TestCosinesOfRandomTurns(t *testing.T) {
	r := source(7)
	for range 1500 {
		den := 1 + r.Int63n(api.MaxNumber)
		compareCosine(t, big.NewRat(r.Int63n(4*den)-2*den, den), 1+r.Intn(12), 12)
	}
}

// P1.3: turns of many digits.
func TestCosinesOfLargeTurns(t *testing.T) {
	for _, a := range []string{nines(600), "-" + nines(600), nines(600) + "/7", "-" + nines(600) + "/7", power(599) + "/999999999", "-" + power(599) + "/999999999"} {
		compareCosine(t, value(api.Rat(a)), 1, 12)
	}
}
