// Package rational computes with rational numbers of any size. Package number limits the digits of arguments and results;
// the layers above it compute what lies between them with this package, which has no limits.
package rational

import (
	"cmp"
	"math"
	"strings"

	"strobe/api"
	"strobe/common"
	"strobe/number"
)

// Number is a rational number in lowest terms. The zero value is not a number: it is the result of a division by 0,
// and of every operation with it.
type Number struct {
	negative    bool
	top, bottom natural
}

// Of returns an integer.
func Of(n int) Number {
	if n < 0 {
		// The magnitude of the least int is only right as an unsigned number.
		return Number{true, naturalOf(-uint64(n)), naturalOf(1)}
	}
	return Number{false, naturalOf(uint64(n)), naturalOf(1)}
}

// Exact returns the exact value of a sample, or the zero value if it is not finite.
func Exact(sample float32) Number {
	text, _ := number.Exact(sample)
	value, _ := Read(text)
	return value
}

// Read returns the value of a number, or the error of number.Check.
func Read(a api.Rat) (Number, api.Errno) {
	if e := number.Check(a); e != api.OK {
		return Number{}, e
	}
	top, bottom, isFraction := strings.Cut(string(a), "/")
	top, negative := strings.CutPrefix(top, "-")
	if !isFraction {
		bottom = "1"
	}
	return Number{negative, parsed(top), parsed(bottom)}, api.OK
}

// ReadSigned returns the value of a number, the error of number.Check, or ErrRange if its sign is below a least one.
func ReadSigned(a api.Rat, least int) (Number, api.Errno) {
	x, e := Read(a)
	if e == api.OK && x.Sign() < least {
		return Number{}, api.ErrRange
	}
	return x, e
}

// ReadAll returns the values of some numbers, or the first error of one.
func ReadAll(texts []api.Rat) ([]Number, api.Errno) {
	return common.Converted(texts, Read)
}

// Write returns the number with a value: ErrZero if there is none, ErrLarge if it has too many digits.
func (a Number) Write() (api.Rat, api.Errno) {
	if !a.exists() {
		return "", api.ErrZero
	}
	text, bottom := a.top.text(), a.bottom.text()
	if max(len(text), len(bottom)) > api.MaxDigits {
		return "", api.ErrLarge
	}
	if a.negative {
		text = "-" + text
	}
	if bottom != "1" {
		text += "/" + bottom
	}
	return api.Rat(text), api.OK
}

// WriteAll returns the numbers with some values, or the first error of one.
func WriteAll(values []Number) ([]api.Rat, api.Errno) {
	return common.Converted(values, Number.Write)
}

// exists reports whether a value is a number.
func (a Number) exists() bool { return !a.bottom.isZero() }

// Sign returns -1, 0 or 1 if a is below 0, equal to it, or above it.
func (a Number) Sign() int {
	switch {
	case a.top.isZero():
		return 0
	case a.negative:
		return -1
	}
	return 1
}

// Compare returns -1, 0 or 1 if a is less than b, equal to it, or greater.
func (a Number) Compare(b Number) int {
	if a.Sign() != b.Sign() {
		return cmp.Compare(a.Sign(), b.Sign())
	}
	// This is far faster than a difference in lowest terms.
	return a.Sign() * a.top.times(b.bottom).compare(b.top.times(a.bottom))
}

// Denominator returns the denominator.
func (a Number) Denominator() Number {
	if !a.exists() {
		return Number{}
	}
	return Number{top: a.bottom, bottom: naturalOf(1)}
}

// Negated returns -a.
func (a Number) Negated() Number {
	return Number{!a.negative && !a.top.isZero(), a.top, a.bottom}
}

// Magnitude returns the absolute value.
func (a Number) Magnitude() Number {
	return Number{false, a.top, a.bottom}
}

// Plus returns the sum.
func (a Number) Plus(b Number) Number {
	if !a.exists() || !b.exists() {
		return Number{}
	}
	// What the top of the sum has in common with its bottom is a part of what both bottoms have in common.
	divisor := commonDivisor(a.bottom, b.bottom)
	scaleA, scaleB := b.bottom.dividedBy(divisor), a.bottom.dividedBy(divisor)
	negative, top := signedSum(a.negative, a.top.times(scaleA), b.negative, b.top.times(scaleB))
	top, rest := withoutCommon(top, divisor)
	return Number{negative, top, rest.times(scaleA).times(scaleB)}
}

// signedSum returns the sign and the magnitude of a sum; 0 is not negative.
func signedSum(negativeA bool, a natural, negativeB bool, b natural) (bool, natural) {
	if negativeA == negativeB {
		return negativeA, a.plus(b)
	}
	switch order := a.compare(b); {
	case order < 0:
		return negativeB, b.minus(a)
	case order > 0:
		return negativeA, a.minus(b)
	}
	return false, nil
}

// Minus returns the difference.
func (a Number) Minus(b Number) Number {
	return a.Plus(b.Negated())
}

// Times returns the product.
func (a Number) Times(b Number) Number {
	if !a.exists() || !b.exists() {
		return Number{}
	}
	// Both factors are in lowest terms: only the top of one and the bottom of the other have common divisors.
	topA, bottomB := withoutCommon(a.top, b.bottom)
	topB, bottomA := withoutCommon(b.top, a.bottom)
	top := topA.times(topB)
	return Number{a.negative != b.negative && !top.isZero(), top, bottomA.times(bottomB)}
}

// Square returns a times a.
func (a Number) Square() Number {
	// Lowest terms remain lowest terms.
	return Number{false, a.top.times(a.top), a.bottom.times(a.bottom)}
}

// Over returns the quotient.
func (a Number) Over(b Number) Number {
	return a.Times(Number{b.negative, b.bottom, b.top})
}

// Floor returns the greatest integer that is not above a.
func (a Number) Floor() Number {
	if !a.exists() {
		return Number{}
	}
	whole, rest := a.top.over(a.bottom)
	if a.negative && !rest.isZero() {
		whole = whole.plus(naturalOf(1))
	}
	return Number{a.negative, whole, naturalOf(1)}
}

// FloorOver returns the greatest integer that is not above a / b.
func (a Number) FloorOver(b Number) Number {
	// Lowest terms of the quotient would take far longer.
	top, bottom := a.top.times(b.bottom), a.bottom.times(b.top)
	return Number{a.negative != b.negative && !top.isZero(), top, bottom}.Floor()
}

// Int returns the value of an integer from 0 to MaxNumber; it is 0 and false for every other number.
func (a Number) Int() (int, bool) {
	if !a.bottom.isOne() || a.negative || len(a.top) > 1 {
		return 0, false
	}
	return int(a.top.word(0)), true
}

// Nearest returns the nearest float32, as number.Float does, or an infinity if a is too large for one.
func (a Number) Nearest() float32 {
	// All floats, and all numbers in the middle between two of them, are multiples of 2^-150. So all numbers
	// between two consecutive multiples have the same nearest float, and one of them has few digits.
	root := Exact(1 << 75)
	scale := root.Times(root)
	scaled := a.Times(scale)
	coarse := scaled.Floor()
	if coarse.Compare(scaled) != 0 {
		coarse = coarse.Plus(Of(1).Over(Of(2)))
	}
	text, errText := coarse.Over(scale).Write()
	nearest, errFloat := number.Float(text)
	if common.FirstError(errText, errFloat) != api.OK {
		return float32(math.Inf(a.Sign()))
	}
	return nearest
}
