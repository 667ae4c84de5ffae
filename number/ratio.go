package number

import (
	"strings"

	"strobe/api"
)

// ratio is a rational number in lowest terms; 0 is not negative and has the bottom 1.
// The zero value, whose bottom is 0, stands for a quotient that does not exist.
type ratio struct {
	negative    bool
	top, bottom natural
}

// lowest returns the quotient of two naturals, or the zero value if bottom is 0.
func lowest(negative bool, top, bottom natural) ratio {
	if bottom.isZero() {
		return ratio{}
	}
	if top.isZero() {
		return ratio{bottom: naturalOf(1)}
	}
	if divisor := commonDivisor(top, bottom); !divisor.isOne() {
		top, _ = top.over(divisor)
		bottom, _ = bottom.over(divisor)
	}
	return ratio{negative, top, bottom}
}

// integer returns the ratio of an int.
func integer(n int) ratio {
	if n < 0 {
		// The magnitude of the least int is only right as an unsigned number.
		return ratio{true, naturalOf(-uint64(n)), naturalOf(1)}
	}
	return ratio{false, naturalOf(uint64(n)), naturalOf(1)}
}

// read returns the value of a number, or its error.
func read(a api.Rat) (ratio, api.Errno) {
	top, bottom, hasBottom := strings.Cut(string(a), "/")
	top, negative := strings.CutPrefix(top, "-")
	if !isDecimal(top) || negative && top == "0" {
		return ratio{}, api.ErrForm
	}
	if hasBottom && (!isDecimal(bottom) || bottom == "0" || bottom == "1") {
		return ratio{}, api.ErrForm
	}
	if max(len(top), len(bottom)) > api.MaxDigits {
		return ratio{}, api.ErrLarge
	}
	if !hasBottom {
		return ratio{negative, parsed(top), naturalOf(1)}, api.OK
	}
	x := ratio{negative, parsed(top), parsed(bottom)}
	if !commonDivisor(x.top, x.bottom).isOne() {
		return ratio{}, api.ErrForm
	}
	return x, api.OK
}

// isDecimal reports whether a string has decimal digits only, at least one, and no leading zero.
func isDecimal(s string) bool {
	for _, c := range s {
		if !isDigit(c) {
			return false
		}
	}
	return s == "0" || s != "" && s[0] != '0'
}

// write returns the number with a value: ErrZero if there is none, ErrLarge if it has too many digits.
func (a ratio) write() (api.Rat, api.Errno) {
	if a.bottom.isZero() {
		return "", api.ErrZero
	}
	text, bottom := a.top.text(), a.bottom.text()
	if max(len(text), len(bottom)) > api.MaxDigits {
		return "", api.ErrLarge
	}
	if a.negative {
		text = "-" + text
	}
	if !a.bottom.isOne() {
		text += "/" + bottom
	}
	return api.Rat(text), api.OK
}

func (a ratio) isZero() bool { return a.top.isZero() }

func (a ratio) negated() ratio {
	return ratio{!a.negative && !a.isZero(), a.top, a.bottom}
}

func (a ratio) plus(b ratio) ratio {
	left, right := a.top.times(b.bottom), b.top.times(a.bottom)
	bottom := a.bottom.times(b.bottom)
	if a.negative == b.negative {
		return lowest(a.negative, left.plus(right), bottom)
	}
	if left.compare(right) < 0 {
		return lowest(b.negative, right.minus(left), bottom)
	}
	return lowest(a.negative, left.minus(right), bottom)
}

func (a ratio) minus(b ratio) ratio {
	return a.plus(b.negated())
}

func (a ratio) times(b ratio) ratio {
	return lowest(a.negative != b.negative, a.top.times(b.top), a.bottom.times(b.bottom))
}

func (a ratio) over(b ratio) ratio {
	return lowest(a.negative != b.negative, a.top.times(b.bottom), a.bottom.times(b.top))
}

func (a ratio) compare(b ratio) int {
	if a.negative != b.negative {
		return sign(b.negative)
	}
	order := a.top.times(b.bottom).compare(b.top.times(a.bottom))
	if a.negative {
		return -order
	}
	return order
}

// floor returns the greatest integer that is not above a.
func (a ratio) floor() ratio {
	whole, rest := a.top.over(a.bottom)
	if a.negative && !rest.isZero() {
		whole = whole.plus(naturalOf(1))
	}
	return ratio{a.negative, whole, naturalOf(1)}
}
