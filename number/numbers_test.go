package number_test

import (
	"math"
	"math/big"
	"strconv"
	"strings"
	"testing"

	"strobe/api"
	"strobe/number"
)

// P1.1: names.
func TestNames(t *testing.T) {
	for _, s := range []string{"a", "Z", "ann", "a1", "a_", "A_1_b", "z9", strings.Repeat("a", 24), "x" + strings.Repeat("9", 23)} {
		if !number.IsName(s) {
			t.Errorf("%q is a name", s)
		}
	}
	for _, s := range []string{"", "1", "1a", "_", "_a", "a b", "a-b", "a.", " a", "a ", "a\x00", "a\n", "\xff", "a\xff", "\u00e9", "a\u00e9", "\u0430", "a\u0661", "@", "[", "`", "{", "a/", "a:", "a@", "a[", "a`", "a{", "a^", strings.Repeat("a", 25), strings.Repeat("a", 100000), strings.Repeat("\u00e9", 12)} {
		if number.IsName(s) {
			t.Errorf("%q is not a name", brief(s))
		}
	}
}

func TestNamesOfEachByte(t *testing.T) {
	for b := range 256 {
		letter := b >= 'a' && b <= 'z' || b >= 'A' && b <= 'Z'
		if number.IsName(string([]byte{byte(b)})) != letter {
			t.Errorf("the byte %d alone", b)
		}
		if number.IsName(string([]byte{'a', byte(b)})) != (letter || b >= '0' && b <= '9' || b == '_') {
			t.Errorf("the byte %d after a letter", b)
		}
	}
}

// P1.1: the error of a number.
func TestCheck(t *testing.T) {
	for _, row := range []struct {
		a api.Rat
		e api.Errno
	}{
		{"0", api.OK}, {"-7", api.OK}, {"3/2", api.OK}, {"-1/2", api.OK},
		{"-0", api.ErrForm}, {"0/5", api.ErrForm}, {"1/1", api.ErrForm}, {"1/0", api.ErrForm}, {"2/4", api.ErrForm}, {"1/-2", api.ErrForm},
		{api.Rat(nines(600)), api.OK}, {api.Rat("-" + nines(600)), api.OK}, {api.Rat("1/" + nines(600)), api.OK}, {api.Rat("-" + power(599) + "/" + nines(600)), api.OK},
		{api.Rat(nines(601)), api.ErrLarge}, {api.Rat("-" + nines(601)), api.ErrLarge}, {api.Rat("1/" + nines(601)), api.ErrLarge},
		// The number of digits comes after the form, and before the common divisors.
		{api.Rat("2/" + strings.Repeat("2", 601)), api.ErrLarge}, {api.Rat("2/" + strings.Repeat("2", 600)), api.ErrForm}, {api.Rat("0/" + nines(601)), api.ErrLarge},
		{api.Rat(nines(601) + "/1"), api.ErrForm}, {api.Rat("0" + nines(601)), api.ErrForm}, {api.Rat("-0/" + nines(601)), api.ErrForm}, {api.Rat(nines(601) + "/0"), api.ErrForm}, {api.Rat(nines(601) + "x"), api.ErrForm},
	} {
		expect(t, "Check "+string(row.a), 0, number.Check(row.a), 0, row.e)
	}
}

func TestCheckByDefinition(t *testing.T) {
	for _, a := range validNumbers() {
		expect(t, "Check "+string(a), 0, number.Check(a), 0, api.OK)
	}
	for _, a := range invalidNumbers() {
		if e := number.Check(a); e == api.OK || e != referenceCheck(a) {
			t.Errorf("Check %q: got %d, want %d", brief(string(a)), e, referenceCheck(a))
		}
	}
}

// All strings of a few bytes that may occur in numbers.
func TestCheckShortStrings(t *testing.T) {
	l := []string{""}
	for range 5 {
		for _, s := range l {
			for _, b := range "01269-/" {
				a := api.Rat(s + string(b))
				expect(t, "Check "+string(a), 0, number.Check(a), 0, referenceCheck(a))
			}
		}
		var longer []string
		for _, s := range l {
			for _, b := range "01269-/" {
				longer = append(longer, s+string(b))
			}
		}
		l = longer
	}
}

// A common divisor is found wherever it is.
func TestCheckCommonDivisors(t *testing.T) {
	r := source(1)
	for range 2000 {
		x, d := randomRat(r, 300), new(big.Int).Rand(r, big.NewInt(int64(2+r.Intn(1000))))
		top, bottom := new(big.Int).Mul(x.Num(), d), new(big.Int).Mul(x.Denom(), d)
		a := api.Rat(top.String() + "/" + bottom.String())
		expect(t, "Check "+string(a), 0, number.Check(a), 0, referenceCheck(a))
	}
}

// P1.1: quotients of integers.
func TestOf(t *testing.T) {
	for _, row := range []struct {
		num, den int
		a        api.Rat
	}{
		{15, -6, "-5/2"}, {0, 5, "0"}, {0, -5, "0"}, {6, 3, "2"}, {-6, 3, "-2"}, {-6, -3, "2"}, {1, -1, "-1"}, {7, 1, "7"}, {-4, -6, "2/3"},
		{math.MinInt, 1, "-9223372036854775808"}, {math.MinInt, -1, "9223372036854775808"}, {1, math.MinInt, "-1/9223372036854775808"}, {math.MinInt, math.MinInt, "1"},
		{math.MaxInt, math.MinInt, "-9223372036854775807/9223372036854775808"}, {math.MaxInt, 1, "9223372036854775807"}, {math.MinInt, math.MaxInt, "-9223372036854775808/9223372036854775807"},
	} {
		a, e := number.Of(row.num, row.den)
		expect(t, "Of "+strconv.Itoa(row.num)+" "+strconv.Itoa(row.den), a, e, row.a, api.OK)
	}
	for _, num := range []int{0, 1, -1, 15, math.MaxInt, math.MinInt} {
		a, e := number.Of(num, 0)
		expect(t, "Of by 0", a, e, "", api.ErrZero)
	}
	r := source(2)
	for range 2000 {
		num, den := int(r.Uint64()>>r.Intn(64)), int(r.Uint64()>>r.Intn(63)|1)
		a, e := number.Of(num, den)
		expect(t, "Of", a, e, api.Rat(big.NewRat(int64(num), int64(den)).RatString()), api.OK)
	}
}

// operation is a function of two numbers, and what it is by the definition.
type operation struct {
	name      string
	got       func(a, b api.Rat) (api.Rat, api.Errno)
	reference func(x, y *big.Rat) *big.Rat
}

func operations() []operation {
	return []operation{
		{"Add", number.Add, func(x, y *big.Rat) *big.Rat { return new(big.Rat).Add(x, y) }},
		{"Sub", number.Sub, func(x, y *big.Rat) *big.Rat { return new(big.Rat).Sub(x, y) }},
		{"Mul", number.Mul, func(x, y *big.Rat) *big.Rat { return new(big.Rat).Mul(x, y) }},
		{"Div", number.Div, func(x, y *big.Rat) *big.Rat { return new(big.Rat).Quo(x, y) }},
	}
}

// compareOperations compares all operations on two arguments with the reference.
func compareOperations(t *testing.T, a, b api.Rat) {
	t.Helper()
	e := firstError(referenceCheck(a), referenceCheck(b))
	for _, o := range operations() {
		wanted, wantedError := api.Rat(""), e
		if e == api.OK && o.name == "Div" && b == "0" {
			wantedError = api.ErrZero
		} else if e == api.OK {
			wanted, wantedError = text(o.reference(value(a), value(b)))
		}
		got, gotError := o.got(a, b)
		expect(t, o.name+" "+brief(string(a))+" "+brief(string(b)), got, gotError, wanted, wantedError)
	}
	wanted := 0
	if e == api.OK {
		wanted = value(a).Cmp(value(b))
	}
	got, gotError := number.Order(a, b)
	expect(t, "Order "+brief(string(a))+" "+brief(string(b)), got, gotError, wanted, e)
}

// P1.1: operations, on all pairs of valid and invalid numbers.
func TestOperations(t *testing.T) {
	for _, a := range validNumbers() {
		for _, b := range validNumbers() {
			compareOperations(t, a, b)
		}
	}
	for _, a := range invalidNumbers() {
		for _, b := range []api.Rat{"0", "1/2", "x", api.Rat(nines(601))} {
			compareOperations(t, a, b)
			compareOperations(t, b, a)
		}
	}
}

func TestOperationsOnRandomNumbers(t *testing.T) {
	r := source(3)
	for range 3000 {
		x, y := randomRat(r, 400), randomRat(r, 400)
		if r.Intn(8) == 0 {
			y.Neg(x)
		}
		compareOperations(t, api.Rat(x.RatString()), api.Rat(y.RatString()))
	}
	for range 100 {
		x, y := randomRat(r, 1990), randomRat(r, 1990)
		compareOperations(t, api.Rat(x.RatString()), api.Rat(y.RatString()))
	}
}

// P1.1: examples of operations, without the reference.
func TestOperationExamples(t *testing.T) {
	for _, row := range []struct {
		name       string
		a, b, want api.Rat
		e          api.Errno
	}{
		{"Add", "1/10", "1/15", "1/6", api.OK}, {"Add", "1/2", "-1/2", "0", api.OK}, {"Add", "-1/3", "-2/3", "-1", api.OK}, {"Add", "0", "0", "0", api.OK},
		{"Sub", "1/10", "1/15", "1/30", api.OK}, {"Sub", "0", "3/4", "-3/4", api.OK}, {"Sub", "-5", "-5", "0", api.OK},
		{"Mul", "9/4", "-2/3", "-3/2", api.OK}, {"Mul", "0", "-7", "0", api.OK}, {"Mul", "-1/2", "-2", "1", api.OK},
		{"Div", "9/4", "-3/2", "-3/2", api.OK}, {"Div", "0", "-3", "0", api.OK}, {"Div", "1", "0", "", api.ErrZero}, {"Div", "0", "0", "", api.ErrZero},
		// The first error decides; a divisor 0 comes after the errors of both numbers.
		{"Div", "x", "0", "", api.ErrForm}, {"Div", "1", "-0", "", api.ErrForm}, {"Div", api.Rat(nines(601)), "x", "", api.ErrLarge}, {"Div", "x", api.Rat(nines(601)), "", api.ErrForm}, {"Add", "2/4", api.Rat(nines(601)), "", api.ErrForm},
		// The size of the result is examined after reducing it.
		{"Add", api.Rat(nines(600)), "1", "", api.ErrLarge}, {"Add", api.Rat(nines(600)), "-1", api.Rat(nines(599) + "8"), api.OK}, {"Mul", api.Rat(power(599)), "10", "", api.ErrLarge}, {"Mul", api.Rat(power(599)), "9", api.Rat("9" + power(599)[1:]), api.OK},
		{"Mul", api.Rat("1/" + power(599)), "1/10", "", api.ErrLarge}, {"Mul", api.Rat(power(599)), api.Rat("1/" + power(599)), "1", api.OK}, {"Div", api.Rat(power(599)), api.Rat(power(599)), "1", api.OK}, {"Sub", api.Rat("1/" + nines(600)), api.Rat("1/" + nines(600)), "0", api.OK},
		{"Add", "1/2", api.Rat(nines(600)), "", api.ErrLarge},
	} {
		for _, o := range operations() {
			if o.name == row.name {
				a, e := o.got(row.a, row.b)
				expect(t, row.name+" "+string(row.a)+" "+string(row.b), a, e, row.want, row.e)
			}
		}
	}
}

// P1.1: integers below numbers.
func TestFloor(t *testing.T) {
	for _, row := range []struct {
		a, want api.Rat
		e       api.Errno
	}{
		{"-5/2", "-3", api.OK}, {"5/2", "2", api.OK}, {"0", "0", api.OK}, {"-1/2", "-1", api.OK}, {"1/2", "0", api.OK}, {"7", "7", api.OK}, {"-7", "-7", api.OK}, {"-1/999999999", "-1", api.OK}, {"-7/3", "-3", api.OK}, {"-8/3", "-3", api.OK},
		{"", "", api.ErrForm}, {"2/4", "", api.ErrForm}, {api.Rat(nines(601)), "", api.ErrLarge},
		{api.Rat("-" + nines(600)), api.Rat("-" + nines(600)), api.OK}, {api.Rat("-" + nines(600) + "/2"), api.Rat("-5" + power(599)[1:]), api.OK},
	} {
		a, e := number.Floor(row.a)
		expect(t, "Floor "+string(row.a), a, e, row.want, row.e)
	}
	r := source(4)
	for range 1000 {
		x := randomRat(r, 200)
		floor := new(big.Int).Div(x.Num(), x.Denom())
		a, e := number.Floor(api.Rat(x.RatString()))
		expect(t, "Floor "+x.RatString(), a, e, api.Rat(floor.String()), api.OK)
	}
}
