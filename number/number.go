// Package number computes with rational numbers and with spans of them: see shared/doc/01-number.md.
package number

import (
	"strobe/api"
)

// Limits of tables and of the decimals of cosines.
const (
	MaxBreaks   = 64
	MaxDecimals = 12
)

// IsName reports whether a string is a name.
func IsName(s string) bool {
	if s == "" || len(s) > api.MaxName {
		return false
	}
	for i, c := range s {
		if !isLetter(c) && (i == 0 || !isDigit(c) && c != '_') {
			return false
		}
	}
	return true
}

func isLetter(c rune) bool {
	return c >= 'a' && c <= 'z' || c >= 'A' && c <= 'Z'
}

func isDigit(c rune) bool {
	return c >= '0' && c <= '9'
}

// Check returns the first error of a number, or OK.
func Check(a api.Rat) api.Errno {
	_, e := read(a)
	return e
}

// Of returns the quotient of two integers.
func Of(num, den int) (api.Rat, api.Errno) {
	return integer(num).over(integer(den)).write()
}

// Add returns the sum.
func Add(a, b api.Rat) (api.Rat, api.Errno) {
	return combine(a, b, read, ratio.plus, ratio.write)
}

// Sub returns the difference.
func Sub(a, b api.Rat) (api.Rat, api.Errno) {
	return combine(a, b, read, ratio.minus, ratio.write)
}

// Mul returns the product.
func Mul(a, b api.Rat) (api.Rat, api.Errno) {
	return combine(a, b, read, ratio.times, ratio.write)
}

// Div returns the quotient.
func Div(a, b api.Rat) (api.Rat, api.Errno) {
	return combine(a, b, read, ratio.over, ratio.write)
}

// Order compares two numbers.
func Order(a, b api.Rat) (int, api.Errno) {
	x, errX := read(a)
	y, errY := read(b)
	if e := first(errX, errY); e != api.OK {
		return 0, e
	}
	return x.compare(y), api.OK
}

// Floor returns the greatest integer that is not above a number.
func Floor(a api.Rat) (api.Rat, api.Errno) {
	x, e := read(a)
	if e != api.OK {
		return "", e
	}
	return x.floor().write()
}
