package rational

import (
	"math/bits"
	"strconv"
	"strings"
)

// natural is an integer of at least 0, in words of nine decimal digits, the least significant one first.
// The last word is never 0, so that equal numbers have equal lengths; 0 has no words.
// Methods do not change their arguments, as results may share words with them.
type natural []uint64

// The decimal digits of one word, and 10 to the power of their number. The product of two words fits into 64 bits.
const (
	wordDigits = 9
	base       = 1000000000
)

// naturalOf returns the natural with a value.
func naturalOf(n uint64) natural {
	return trimmed(natural{n % base, n / base % base, n / (base * base)})
}

// trimmed returns the words without those at the end that are 0.
func trimmed(a natural) natural {
	n := len(a)
	for n > 0 && a[n-1] == 0 {
		n--
	}
	return a[:n]
}

// parsed returns the natural with these decimal digits.
func parsed(digits string) natural {
	var a natural
	for end := len(digits); end > 0; end -= wordDigits {
		word, _ := strconv.ParseUint(digits[max(0, end-wordDigits):end], 10, 64)
		a = append(a, word)
	}
	return trimmed(a)
}

// text returns the decimal digits.
func (a natural) text() string {
	if a.isZero() {
		return "0"
	}
	last := len(a) - 1
	var b strings.Builder
	b.WriteString(strconv.FormatUint(a[last], 10))
	for i := last - 1; i >= 0; i-- {
		// One digit more than the word has keeps its leading zeros.
		b.WriteString(strconv.FormatUint(base+a[i], 10)[1:])
	}
	return b.String()
}

func (a natural) isZero() bool { return len(a) == 0 }

func (a natural) isOne() bool { return len(a) == 1 && a[0] == 1 }

// word returns the word with an index, and 0 where there is none.
func (a natural) word(i int) uint64 {
	if i < 0 || i >= len(a) {
		return 0
	}
	return a[i]
}

func (a natural) compare(b natural) int {
	for i := max(len(a), len(b)) - 1; i >= 0; i-- {
		if a.word(i) < b.word(i) {
			return -1
		}
		if a.word(i) > b.word(i) {
			return 1
		}
	}
	return 0
}

func (a natural) plus(b natural) natural {
	sum := make(natural, max(len(a), len(b))+1)
	carry := uint64(0)
	for i := range sum {
		carry += a.word(i) + b.word(i)
		sum[i], carry = carry%base, carry/base
	}
	return trimmed(sum)
}

// minus returns the difference; b is at most a.
func (a natural) minus(b natural) natural {
	difference := make(natural, len(a))
	borrow := uint64(0)
	for i := range a {
		rest := base + a[i] - b.word(i) - borrow
		difference[i], borrow = rest%base, 1-rest/base
	}
	return trimmed(difference)
}

func (a natural) times(b natural) natural {
	product := make(natural, len(a)+len(b))
	for i, factor := range a {
		carry := uint64(0)
		for j, word := range b {
			carry += factor*word + product[i+j]
			product[i+j], carry = carry%base, carry/base
		}
		product[i+len(b)] = carry
	}
	return trimmed(product)
}

// over returns the integer part of a / b, and the remainder; b is above 0.
func (a natural) over(b natural) (natural, natural) {
	if a.compare(b) < 0 {
		return nil, a
	}
	if len(b) == 1 {
		return a.overWord(b[0])
	}
	quotient := make(natural, len(a)-len(b)+1)
	rest := a[len(quotient):]
	for i := len(quotient) - 1; i >= 0; i-- {
		rest = trimmed(append(natural{a[i]}, rest...))
		word := rest.estimate(b)
		product := b.times(natural{word})
		for product.compare(rest) > 0 {
			word--
			product = product.minus(b)
		}
		quotient[i] = word
		rest = rest.minus(product)
	}
	return trimmed(quotient), rest
}

// estimate returns the integer part of a / b or 1 more, where a is below b times the base, and b is above 0.
func (a natural) estimate(b natural) uint64 {
	// The first three words of a fit into 128 bits, and the first two of b make a divisor of at least
	// the base: it is above the upper 64 bits, so that the quotient fits into a word.
	n := len(b)
	high, low := bits.Mul64(a.word(n)*base+a.word(n-1), base)
	low, carry := bits.Add64(low, a.word(n-2), 0)
	quotient, _ := bits.Div64(high+carry, low, b.word(n-1)*base+b.word(n-2))
	return quotient
}

// overWord returns the integer part of a / word, and the remainder; the word is from 1 to base - 1.
func (a natural) overWord(word uint64) (natural, natural) {
	quotient := make(natural, len(a))
	rest := uint64(0)
	for i := len(a) - 1; i >= 0; i-- {
		part := rest*base + a[i]
		quotient[i], rest = part/word, part%word
	}
	return trimmed(quotient), naturalOf(rest)
}

// commonDivisor returns the greatest common divisor; that of 0 and another natural is the other one.
func commonDivisor(a, b natural) natural {
	if a.compare(b) < 0 {
		a, b = b, a
	}
	for len(b) > 2 {
		a, b = stepsFor(a, b).replace(a, b)
	}
	if b.isZero() {
		return a
	}
	_, rest := a.over(b)
	// Both are below the square of the base, which fits into 64 bits.
	x, y := b.word(1)*base+b.word(0), rest.word(1)*base+rest.word(0)
	for y != 0 {
		x, y = y, x%y
	}
	return naturalOf(x)
}

// steps are some steps of Euclid's algorithm at once: they replace a and b by p a + q b and r a + s b.
// All are below the base; p and q do not have the same sign, nor do r and s.
type steps struct{ p, q, r, s int64 }

// stepsFor returns the steps that the first two words of a and b tell, where a is at least b.
func stepsFor(a, b natural) steps {
	n := len(a)
	x, y := int64(a.word(n-1)*base+a.word(n-2)), int64(b.word(n-1)*base+b.word(n-2))
	done := steps{p: 1, s: 1}
	// The words that follow decide where between two bounds the next quotient lies. If both bounds have the same integer
	// part, the divisor y is above the new r and s, and their products with it are below the square of the base.
	for y+done.r > 0 && y+done.s > 0 {
		quotient := (x + done.p) / (y + done.r)
		if quotient != (x+done.q)/(y+done.s) {
			break
		}
		done = steps{done.r, done.s, done.p - quotient*done.r, done.q - quotient*done.s}
		x, y = y, x-quotient*y
	}
	return done
}

// replace returns what some steps make of a and b, or what one step makes of them if there are none.
func (t steps) replace(a, b natural) (natural, natural) {
	if t.q == 0 {
		_, rest := a.over(b)
		return b, rest
	}
	return mixed(t.p, a, t.q, b), mixed(t.r, a, t.s, b)
}

// mixed returns p a + q b, which is at least 0 and at most a.
func mixed(p int64, a natural, q int64, b natural) natural {
	words := make(natural, len(a))
	carry := int64(0)
	for i := range words {
		carry += p*int64(a[i]) + q*int64(b.word(i))
		word := carry % base
		carry /= base
		if word < 0 {
			word += base
			carry--
		}
		words[i] = uint64(word)
	}
	return trimmed(words)
}

// dividedBy returns the integer part of a / b; b is above 0.
func (a natural) dividedBy(b natural) natural {
	if b.isOne() {
		return a
	}
	quotient, _ := a.over(b)
	return quotient
}

// withoutCommon returns two naturals, each divided by their greatest common divisor. They are not both 0.
func withoutCommon(a, b natural) (natural, natural) {
	divisor := commonDivisor(a, b)
	return a.dividedBy(divisor), b.dividedBy(divisor)
}
