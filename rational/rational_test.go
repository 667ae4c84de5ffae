package rational_test

import (
	"math/big"
	"math/rand"
	"strings"
	"testing"

	"strobe/api"
	"strobe/rational"
)

// operation is an operation on two numbers, and the same one of math/big.
type operation struct {
	name      string
	got       func(a, b rational.Number) rational.Number
	reference func(z, x, y *big.Rat) *big.Rat
}

func operations() []operation {
	return []operation{
		{"Plus", rational.Number.Plus, (*big.Rat).Add},
		{"Minus", rational.Number.Minus, (*big.Rat).Sub},
		{"Times", rational.Number.Times, (*big.Rat).Mul},
		{"Over", rational.Number.Over, (*big.Rat).Quo},
	}
}

// nines returns n digits 9.
func nines(n int) api.Rat { return api.Rat(strings.Repeat("9", n)) }

// read returns the value of a valid number, here and in math/big.
func read(t *testing.T, a api.Rat) (rational.Number, *big.Rat) {
	t.Helper()
	x, e := rational.Read(a)
	y, ok := new(big.Rat).SetString(string(a))
	if e != api.OK || !ok {
		t.Fatalf("Read %s: %d", a, e)
	}
	return x, y
}

// check compares a value with one of math/big.
func check(t *testing.T, what string, got rational.Number, wanted *big.Rat) {
	t.Helper()
	text, wantedError := api.Rat(wanted.RatString()), api.OK
	if len(strings.TrimPrefix(wanted.Num().String(), "-")) > api.MaxDigits || len(wanted.Denom().String()) > api.MaxDigits {
		text, wantedError = "", api.ErrLarge
	}
	a, e := got.Write()
	if a != text || e != wantedError || got.Sign() != wanted.Sign() {
		t.Errorf("%s: got %s, %d with the sign %d, want %s, %d", what, a, e, got.Sign(), text, wantedError)
	}
}

// checkOperations compares all operations on two numbers with those of math/big.
func checkOperations(t *testing.T, a, b api.Rat) {
	t.Helper()
	x, y := read(t, a)
	v, w := read(t, b)
	for _, o := range operations() {
		if o.name == "Over" && w.Sign() == 0 {
			continue
		}
		check(t, string(a)+" "+o.name+" "+string(b), o.got(x, v), o.reference(new(big.Rat), y, w))
	}
}

// randomRat returns a number with a random number of digits in its numerator and its denominator.
func randomRat(r *rand.Rand, digits int) api.Rat {
	limit := func() *big.Int {
		return new(big.Int).Exp(big.NewInt(10), big.NewInt(int64(1+r.Intn(digits))), nil)
	}
	top := new(big.Int).Rand(r, limit())
	bottom := new(big.Int).Add(new(big.Int).Rand(r, limit()), big.NewInt(1))
	if r.Intn(2) == 0 {
		top.Neg(top)
	}
	return api.Rat(new(big.Rat).SetFrac(top, bottom).RatString())
}

func TestOperations(t *testing.T) {
	zeros := api.Rat(strings.Repeat("0", 598))
	numbers := []api.Rat{
		"0", "1", "-1", "2", "-7", "1/2", "-3/2", "999999999", "1000000000", "-1000000001", "1/1000000000", "-1/999999999", "999999999999999999", "1000000000000000000", "1000000000000000001/999999999999999999", "18446744073709551616", "-18446744073709551615/18446744073709551616",
		nines(600), "-" + nines(600), "1/" + nines(600), "1" + zeros, "1" + zeros + "1", "-1" + zeros + "1/1" + zeros, nines(600) + "/1" + zeros,
	}
	for _, a := range numbers {
		for _, b := range numbers {
			checkOperations(t, a, b)
		}
	}
	r := rand.New(rand.NewSource(1))
	for i := range 3000 {
		digits := []int{5, 25, 60, 300}[i%4]
		checkOperations(t, randomRat(r, digits), randomRat(r, digits))
	}
}

// Words of 0 and of nines make the estimates of quotients go wrong most often.
func TestQuotientsOfSparseNumbers(t *testing.T) {
	r := rand.New(rand.NewSource(2))
	sparse := func() *big.Int {
		n := new(big.Int)
		for range 1 + r.Intn(8) {
			n.Mul(n, big.NewInt(1000000000))
			n.Add(n, big.NewInt([]int64{0, 0, 1, 2, 499999999, 500000000, 999999998, 999999999}[r.Intn(8)]))
		}
		return n.Add(n, big.NewInt(1))
	}
	for range 20000 {
		a := new(big.Rat).SetFrac(sparse(), sparse())
		b := new(big.Rat).SetFrac(sparse(), sparse())
		checkOperations(t, api.Rat(a.RatString()), api.Rat(b.RatString()))
	}
}

// What has too many digits on the way may have few in the end.
func TestNumbersBeyondTheLimits(t *testing.T) {
	large, _ := read(t, nines(600))
	square := large.Times(large)
	if _, e := square.Write(); e != api.ErrLarge {
		t.Errorf("the square has the error %d", e)
	}
	root, e := square.Over(large).Write()
	if root != nines(600) || e != api.OK {
		t.Errorf("the quotient of the square is %s, %d", root, e)
	}
	one, _ := read(t, "1")
	if rest, e := square.Plus(one).Minus(square).Write(); rest != "1" || e != api.OK {
		t.Errorf("the difference of the squares is %s, %d", rest, e)
	}
	if small, e := one.Over(square).Write(); small != "" || e != api.ErrLarge {
		t.Errorf("the inverse square is %s, %d", small, e)
	}
}

func TestReadErrors(t *testing.T) {
	for _, row := range []struct {
		a api.Rat
		e api.Errno
	}{{"", api.ErrForm}, {"x", api.ErrForm}, {"-0", api.ErrForm}, {"1/0", api.ErrForm}, {"2/4", api.ErrForm}, {nines(601), api.ErrLarge}, {"1/" + nines(601), api.ErrLarge}} {
		x, e := rational.Read(row.a)
		if a, none := x.Write(); e != row.e || a != "" || none != api.ErrZero {
			t.Errorf("Read %s: got %s, %d, want %d", row.a, a, e, row.e)
		}
	}
}

// The quotient by 0 is not a number, and no operation with it is one.
func TestNoNumber(t *testing.T) {
	zero, _ := read(t, "0")
	for _, a := range []api.Rat{"0", "1", "-3/2"} {
		x, _ := read(t, a)
		none := x.Over(zero)
		for _, o := range operations() {
			for _, y := range []rational.Number{o.got(none, x), o.got(x, none), o.got(none, none), o.got(rational.Number{}, none), o.got(zero, rational.Number{})} {
				if text, e := y.Write(); text != "" || e != api.ErrZero || y.Sign() != 0 {
					t.Errorf("%s with no number: got %s, %d", o.name, text, e)
				}
			}
		}
	}
}

// Operations do not change their arguments.
func TestNumbersAreImmutable(t *testing.T) {
	texts := []api.Rat{nines(30), "-1/3", nines(90) + "/" + "2", "7/" + nines(40)}
	for _, a := range texts {
		for _, b := range texts {
			x, _ := read(t, a)
			y, _ := read(t, b)
			for _, o := range operations() {
				z := o.got(x, y)
				o.got(z, x)
				o.got(y, z)
			}
			if p, _ := x.Write(); p != a {
				t.Errorf("%s has become %s", a, p)
			}
			if q, _ := y.Write(); q != b {
				t.Errorf("%s has become %s", b, q)
			}
		}
	}
}
