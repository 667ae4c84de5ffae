// Package rational computes with rational numbers of any size. Package number limits the digits of arguments and results;
// the layers above it compute what lies between them with this package, which has no limits.
package rational

import (
	"strings"

	"strobe/api"
	"strobe/number"
)

// Number is a rational number in lowest terms. The zero value is not a number: it is the result of a division by 0,
// and of every operation with it.
type Number struct {
	negative    bool
	top, bottom natural
}

// lowest returns the quotient of two naturals, or the zero value if bottom is 0.
func lowest(negative bool, top, bottom natural) Number {
	if bottom.isZero() {
		return Number{}
	}
	divisor := commonDivisor(top, bottom)
	top, _ = top.over(divisor)
	bottom, _ = bottom.over(divisor)
	return Number{negative && !top.isZero(), top, bottom}
}

// Read returns the value of a number, or the error of number.Check.
func Read(a api.Rat) (Number, api.Errno) {
	if e := number.Check(a); e != api.OK {
		return Number{}, e
	}
	top, bottom, isFraction := strings.Cut(string(a), "/")
	top, negative := strings.CutPrefix(top, "-")
	if !isFraction {
		bottom = "1"
	}
	return Number{negative, parsed(top), parsed(bottom)}, api.OK
}

// Write returns the number with a value: ErrZero if there is none, ErrLarge if it has too many digits.
func (a Number) Write() (api.Rat, api.Errno) {
	if a.bottom.isZero() {
		return "", api.ErrZero
	}
	text, bottom := a.top.text(), a.bottom.text()
	if max(len(text), len(bottom)) > api.MaxDigits {
		return "", api.ErrLarge
	}
	if a.negative {
		text = "-" + text
	}
	if bottom != "1" {
		text += "/" + bottom
	}
	return api.Rat(text), api.OK
}

// Sign returns -1, 0 or 1 if a is below 0, equal to it, or above it.
func (a Number) Sign() int {
	switch {
	case a.top.isZero():
		return 0
	case a.negative:
		return -1
	}
	return 1
}

// Plus returns the sum.
func (a Number) Plus(b Number) Number {
	left, right := a.top.times(b.bottom), b.top.times(a.bottom)
	bottom := a.bottom.times(b.bottom)
	switch {
	case a.negative == b.negative:
		return lowest(a.negative, left.plus(right), bottom)
	case left.compare(right) < 0:
		return lowest(b.negative, right.minus(left), bottom)
	}
	return lowest(a.negative, left.minus(right), bottom)
}

// Minus returns the difference.
func (a Number) Minus(b Number) Number {
	return a.Plus(Number{!b.negative, b.top, b.bottom})
}

// Times returns the product.
func (a Number) Times(b Number) Number {
	return lowest(a.negative != b.negative, a.top.times(b.top), a.bottom.times(b.bottom))
}

// Over returns the quotient.
func (a Number) Over(b Number) Number {
	return lowest(a.negative != b.negative, a.top.times(b.bottom), a.bottom.times(b.top))
}
