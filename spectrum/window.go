package spectrum

import (
	"iter"

	"strobe/api"
	"strobe/common"
	"strobe/rational"
)

// window is a kind of window: its weight at a place between -1 and 1, where 0 is the middle.
type window struct {
	weight func(place rational.Number) rational.Number
}

// windowOf returns the window of a kind, or ErrKind if there is none.
func windowOf(kind string) (window, api.Errno) {
	one := rational.Of(1)
	windows := map[string]window{
		"box":      {func(rational.Number) rational.Number { return one }},
		"triangle": {func(x rational.Number) rational.Number { return one.Minus(x.Magnitude()) }},
		"welch":    {func(x rational.Number) rational.Number { return one.Minus(x.Square()) }},
	}
	w, ok := windows[kind]
	return w, common.ErrorIf(!ok, api.ErrKind)
}

// at returns the weight of an index of n points.
func (w window) at(j, n int) rational.Number {
	return w.weight(rational.Of(2*j + 1 - n).Over(rational.Of(n)))
}

// rotation visits the indices from 0 to n - 1, each with the index of the value that a rotation moves there.
func rotation(n, by int) iter.Seq2[int, int] {
	// The remainder of a negative number is negative, or 0.
	first := (n - by%n) % n
	return func(yield func(int, int) bool) {
		for j := range n {
			if !yield(j, (first+j)%n) {
				return
			}
		}
	}
}

// Window returns the weights of a window with n points.
func Window(kind string, n int) ([]api.Rat, api.Errno) {
	w, e := windowOf(kind)
	if e := common.FirstError(e, checkPoints(n)); e != api.OK {
		return nil, e
	}
	return written(n, func(j int) rational.Number { return w.at(j, n) })
}

// Weighted returns values, each multiplied by the weight of a window.
func Weighted(values []api.Rat, kind string) ([]api.Rat, api.Errno) {
	x, errValues := readValues(values)
	w, errKind := windowOf(kind)
	if e := common.FirstError(errValues, errKind); e != api.OK {
		return nil, e
	}
	return written(len(x), func(j int) rational.Number { return x[j].Times(w.at(j, len(x))) })
}

// Energy returns the sum of the squares of values.
func Energy(values []api.Rat) (api.Rat, api.Errno) {
	x, e := readValues(values)
	if e != api.OK {
		return "", e
	}
	return common.Folded(rational.Number.Plus, common.Transformed(x, rational.Number.Square)).Write()
}

// Shift returns values that are rotated by a number of indices.
func Shift(values []api.Rat, by int) ([]api.Rat, api.Errno) {
	if _, e := readValues(values); e != api.OK {
		return nil, e
	}
	rotated := make([]api.Rat, len(values))
	for j, i := range rotation(len(values), by) {
		rotated[j] = values[i]
	}
	return rotated, api.OK
}
