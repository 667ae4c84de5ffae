package number

import (
	"math/big"
	"math/rand"
	"testing"
)

// bigOf returns a natural as an integer of the library.
func bigOf(a natural) *big.Int {
	n := new(big.Int)
	for i := len(a) - 1; i >= 0; i-- {
		n.Lsh(n, 64)
		n.Or(n, new(big.Int).SetUint64(a[i]))
	}
	return n
}

// edgy returns naturals whose words are at the ends of their range, where carries and estimates are decided.
func edgy(r *rand.Rand) natural {
	words := []uint64{0, 1, 2, 1 << 63, 1<<63 - 1, 1<<63 + 1, 1<<64 - 1, 1<<64 - 2, 1 << 32, chunkSize, chunkSize - 1}
	a := make(natural, r.Intn(6))
	for i := range a {
		a[i] = words[r.Intn(len(words))]
		if r.Intn(4) == 0 {
			a[i] = r.Uint64()
		}
	}
	return trimmed(a)
}

// compareNatural reports a natural that differs from an integer, or has words that are 0 at its end.
func compareNatural(t *testing.T, what string, got natural, wanted *big.Int) {
	t.Helper()
	if bigOf(got).Cmp(wanted) != 0 || len(got) != len(trimmed(got)) {
		t.Fatalf("%s: got %v, want %s", what, got, wanted)
	}
}

func TestNaturals(t *testing.T) {
	r := rand.New(rand.NewSource(1))
	for range 50000 {
		a, b := edgy(r), edgy(r)
		x, y := bigOf(a), bigOf(b)
		compareNatural(t, "plus", a.plus(b), new(big.Int).Add(x, y))
		compareNatural(t, "times", a.times(b), new(big.Int).Mul(x, y))
		compareNatural(t, "commonDivisor", commonDivisor(a, b), new(big.Int).GCD(nil, nil, x, y))
		if a.compare(b) != x.Cmp(y) {
			t.Fatalf("compare %v %v", a, b)
		}
		if x.Cmp(y) >= 0 {
			compareNatural(t, "minus", a.minus(b), new(big.Int).Sub(x, y))
		}
		if !b.isZero() {
			quotient, rest := a.over(b)
			compareNatural(t, "over", quotient, new(big.Int).Quo(x, y))
			compareNatural(t, "remainder", rest, new(big.Int).Rem(x, y))
		}
		// Arguments are the same as before.
		compareNatural(t, "the first argument", a, x)
		compareNatural(t, "the second argument", b, y)
	}
}

// Divisions whose first estimates are too large: products less 1 have the greatest remainders.
func TestDivisionsWithGreatRemainders(t *testing.T) {
	r := rand.New(rand.NewSource(2))
	for range 50000 {
		a, b := edgy(r), edgy(r)
		if a.isZero() || b.isZero() {
			continue
		}
		product := a.times(b).minus(naturalOf(1))
		x, y := bigOf(product), bigOf(b)
		quotient, rest := product.over(b)
		compareNatural(t, "over", quotient, new(big.Int).Quo(x, y))
		compareNatural(t, "remainder", rest, new(big.Int).Rem(x, y))
	}
}

func TestNaturalsAlone(t *testing.T) {
	r := rand.New(rand.NewSource(3))
	for range 5000 {
		a, n := edgy(r), r.Intn(400)
		x := bigOf(a)
		compareNatural(t, "shiftedLeft", a.shiftedLeft(n), new(big.Int).Lsh(x, uint(n)))
		compareNatural(t, "shiftedRight", a.shiftedRight(n), new(big.Int).Rsh(x, uint(n)))
		compareNatural(t, "root", a.root(), new(big.Int).Sqrt(x))
		compareNatural(t, "parsed", parsed(x.String()), x)
		if a.text() != x.String() {
			t.Fatalf("text: got %s, want %s", a.text(), x)
		}
		if a.bitLength() != x.BitLen() {
			t.Fatalf("bitLength of %v: got %d", a, a.bitLength())
		}
		if !a.isZero() && a.twos() != int(x.TrailingZeroBits()) {
			t.Fatalf("twos of %v: got %d", a, a.twos())
		}
		square := a.times(a)
		compareNatural(t, "root of a square", square.root(), x)
		if !a.isZero() {
			compareNatural(t, "root below a square", square.minus(naturalOf(1)).root(), new(big.Int).Sub(x, big.NewInt(1)))
		}
	}
}

// The precision of cosines grows without an end: each attempt has more bits than the one before.
func TestPrecisionsGrow(t *testing.T) {
	for attempt := range 12 {
		if attempt > 0 && precision(attempt) <= precision(attempt-1) {
			t.Errorf("the attempt %d has %d bits", attempt, precision(attempt))
		}
	}
	if got := precision(len(precisions) + 1); got != 4*precisions[len(precisions)-1] {
		t.Errorf("two attempts after the table: %d bits", got)
	}
}

// The guard bits cover the errors of all precisions: the value with fewer bits lies within its bound around that with more.
func TestCosineSeriesBounds(t *testing.T) {
	for _, turn := range []ratio{fraction(1, 5), fraction(1, 8), fraction(1, 999999999), fraction(249999999, 999999999), fraction(123456789, 987654321)} {
		fine := cosineSeries(turn, 2000)
		for bits := 48; bits < 1000; bits += 37 {
			// Half of the guard bits are enough.
			value := cosineSeries(turn, bits).shiftedLeft(2000 - bits)
			bound := naturalOf(1).shiftedLeft(2000 - bits + guardBits/2)
			if fine.plus(bound).compare(value) < 0 || value.plus(bound).compare(fine) < 0 {
				t.Errorf("the cosine of %v with %d bits", turn, bits)
			}
		}
	}
}
