package number

import (
	"math/bits"
	"strconv"
	"strings"
)

// natural is an integer of at least 0, in words of 64 bits, the least significant one first.
// The last word is never 0, so that equal numbers have equal lengths; 0 has no words.
// Methods do not change their arguments, as results may share words with them.
type natural []uint64

// The decimal digits of one word, and 10 to the power of their number: the greatest power within a word.
const (
	chunkDigits = 19
	chunkSize   = 10000000000000000000
)

// naturalOf returns the natural of one word.
func naturalOf(n uint64) natural {
	return trimmed(natural{n})
}

// trimmed returns the words without those at the end that are 0.
func trimmed(a natural) natural {
	n := len(a)
	for n > 0 && a[n-1] == 0 {
		n--
	}
	return a[:n]
}

// parsed returns the natural with these decimal digits.
func parsed(digits string) natural {
	a := make(natural, 0, len(digits)/chunkDigits+1)
	for len(digits) > 0 {
		size := (len(digits)-1)%chunkDigits + 1
		scale, carry := uint64(1), uint64(0)
		for _, c := range digits[:size] {
			scale, carry = scale*10, carry*10+uint64(c-'0')
		}
		for i, word := range a {
			a[i], carry = timesPlus(word, scale, carry, 0)
		}
		a = append(a, carry)
		digits = digits[size:]
	}
	return trimmed(a)
}

// text returns the decimal digits.
func (a natural) text() string {
	if a.isZero() {
		return "0"
	}
	var chunks []uint64
	for !a.isZero() {
		var chunk uint64
		a, chunk = a.overWord(chunkSize)
		chunks = append(chunks, chunk)
	}
	var b strings.Builder
	for i := len(chunks) - 1; i >= 0; i-- {
		digits := strconv.FormatUint(chunks[i], 10)
		if b.Len() > 0 {
			b.WriteString(strings.Repeat("0", chunkDigits-len(digits)))
		}
		b.WriteString(digits)
	}
	return b.String()
}

func (a natural) isZero() bool { return len(a) == 0 }

func (a natural) isOne() bool { return len(a) == 1 && a[0] == 1 }

// bitLength returns the number of bits without leading zeros.
func (a natural) bitLength() int {
	if a.isZero() {
		return 0
	}
	return 64*len(a) - bits.LeadingZeros64(a[len(a)-1])
}

// twos returns how often 2 divides a natural above 0.
func (a natural) twos() int {
	i := 0
	for a[i] == 0 {
		i++
	}
	return 64*i + bits.TrailingZeros64(a[i])
}

func (a natural) compare(b natural) int {
	if len(a) != len(b) {
		return sign(len(a) > len(b))
	}
	for i := len(a) - 1; i >= 0; i-- {
		if a[i] != b[i] {
			return sign(a[i] > b[i])
		}
	}
	return 0
}

// sign returns 1 for true and -1 for false.
func sign(positive bool) int {
	if positive {
		return 1
	}
	return -1
}

func (a natural) plus(b natural) natural {
	if len(a) < len(b) {
		a, b = b, a
	}
	sum := make(natural, len(a)+1)
	carry := uint64(0)
	for i, word := range a {
		other := uint64(0)
		if i < len(b) {
			other = b[i]
		}
		sum[i], carry = bits.Add64(word, other, carry)
	}
	sum[len(a)] = carry
	return trimmed(sum)
}

// minus returns the difference; b is at most a.
func (a natural) minus(b natural) natural {
	return subtract(make(natural, len(a)), a, b)
}

// subtract stores a minus b, which is at most a, in target, which may be a.
func subtract(target, a, b natural) natural {
	borrow := uint64(0)
	for i, word := range a {
		other := uint64(0)
		if i < len(b) {
			other = b[i]
		}
		target[i], borrow = bits.Sub64(word, other, borrow)
	}
	return trimmed(target[:len(a)])
}

func (a natural) times(b natural) natural {
	product := make(natural, len(a)+len(b))
	for i, factor := range a {
		carry := uint64(0)
		for j, word := range b {
			product[i+j], carry = timesPlus(factor, word, product[i+j], carry)
		}
		product[i+len(b)] = carry
	}
	return trimmed(product)
}

// timesPlus returns a times b plus c plus d, the lower word and the upper one.
func timesPlus(a, b, c, d uint64) (uint64, uint64) {
	high, low := bits.Mul64(a, b)
	low, carry := bits.Add64(low, c, 0)
	high += carry
	low, carry = bits.Add64(low, d, 0)
	return low, high + carry
}

// over returns the integer part of a / b, and the remainder; b is above 0.
func (a natural) over(b natural) (natural, natural) {
	if a.compare(b) < 0 {
		return nil, a
	}
	if len(b) == 1 {
		quotient, rest := a.overWord(b[0])
		return quotient, naturalOf(rest)
	}
	// With a divisor whose first bit is 1 the estimates of the quotient's words are at most 1 too large.
	shift := bits.LeadingZeros64(b[len(b)-1])
	divisor := b.shiftedLeft(shift)
	rest := make(natural, len(a)+1)
	copy(rest, a.shiftedLeft(shift))
	quotient := make(natural, len(a)-len(b)+1)
	for i := len(quotient) - 1; i >= 0; i-- {
		quotient[i] = divideStep(rest[i:i+len(b)+1], divisor)
	}
	return trimmed(quotient), trimmed(rest).shiftedRight(shift)
}

// overWord returns the integer part of a / b, and the remainder; b is above 0.
func (a natural) overWord(b uint64) (natural, uint64) {
	quotient := make(natural, len(a))
	rest := uint64(0)
	for i := len(a) - 1; i >= 0; i-- {
		quotient[i], rest = bits.Div64(rest, a[i], b)
	}
	return trimmed(quotient), rest
}

// divideStep divides the words of rest, one more than those of the divisor, and leaves the remainder in them.
// The quotient fits into one word, and the divisor has at least two words, with its first bit 1.
func divideStep(rest, divisor natural) uint64 {
	n := len(divisor)
	quotient := estimate(rest[n], rest[n-1], rest[n-2], divisor[n-1], divisor[n-2])
	carry, borrow := uint64(0), uint64(0)
	for i, word := range divisor {
		var product uint64
		product, carry = timesPlus(quotient, word, carry, 0)
		rest[i], borrow = bits.Sub64(rest[i], product, borrow)
	}
	rest[n], borrow = bits.Sub64(rest[n], carry, borrow)
	if borrow == 0 {
		return quotient
	}
	// The estimate was 1 too large.
	carry = 0
	for i, word := range divisor {
		rest[i], carry = bits.Add64(rest[i], word, carry)
	}
	rest[n] += carry
	return quotient - 1
}

// estimate divides the three words r2, r1, r0 by the words d1, d0. r2 is at most d1, and the first bit of d1 is 1.
func estimate(r2, r1, r0, d1, d0 uint64) uint64 {
	quotient, rest, carry := ^uint64(0), uint64(0), uint64(0)
	if r2 < d1 {
		quotient, rest = bits.Div64(r2, r1, d1)
	} else {
		rest, carry = bits.Add64(r1, d1, 0)
	}
	for carry == 0 {
		high, low := bits.Mul64(quotient, d0)
		if high < rest || high == rest && low <= r0 {
			break
		}
		quotient--
		rest, carry = bits.Add64(rest, d1, 0)
	}
	return quotient
}

func (a natural) shiftedLeft(n int) natural {
	words, rest := n/64, n%64
	shifted := make(natural, len(a)+words+1)
	for i, word := range a {
		shifted[i+words] |= word << rest
		shifted[i+words+1] = word >> (64 - rest)
	}
	return trimmed(shifted)
}

func (a natural) shiftedRight(n int) natural {
	return shift(make(natural, len(a)), a, n)
}

// shift stores a without its last n bits in target, which may be a.
func shift(target, a natural, n int) natural {
	words, rest := n/64, n%64
	if words >= len(a) {
		return nil
	}
	for i := words; i < len(a); i++ {
		next := uint64(0)
		if i+1 < len(a) {
			next = a[i+1]
		}
		target[i-words] = a[i]>>rest | next<<(64-rest)
	}
	return trimmed(target[:len(a)-words])
}

// commonDivisor returns the greatest common divisor; that of 0 and another natural is the other one.
func commonDivisor(a, b natural) natural {
	if len(a) < len(b) {
		a, b = b, a
	}
	// The steps below only take off a bit or two each, so a much longer natural is divided first.
	if len(a) > len(b) && !b.isZero() {
		_, a = a.over(b)
	}
	if a.isZero() {
		return b
	}
	if b.isZero() {
		return a
	}
	x, y := a.shiftedRight(a.twos()), b.shiftedRight(b.twos())
	for !x.isOne() && !y.isOne() {
		order := x.compare(y)
		if order == 0 {
			break
		}
		if order < 0 {
			x, y = y, x
		}
		x = subtract(x, x, y)
		x = shift(x, x, x.twos())
	}
	if y.isOne() {
		x = y
	}
	return x.shiftedLeft(min(a.twos(), b.twos()))
}

// root returns the greatest natural whose square is at most a.
func (a natural) root() natural {
	if a.isZero() {
		return a
	}
	// From above, Newton's steps descend to the root and then no further.
	root := naturalOf(1).shiftedLeft((a.bitLength() + 1) / 2)
	for {
		quotient, _ := a.over(root)
		next := root.plus(quotient).shiftedRight(1)
		if next.compare(root) >= 0 {
			return root
		}
		root = next
	}
}
