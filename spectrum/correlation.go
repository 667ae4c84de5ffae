package spectrum

import (
	"slices"

	"strobe/api"
	"strobe/common"
	"strobe/rational"
)

// correlation returns the number of the cyclic correlation at an index: the sum of the products of the values of a
// and of those of b that come by more indices later.
func correlation(a, b []rational.Number, by int) rational.Number {
	products := make([]rational.Number, len(a))
	for j, i := range rotation(len(b), -by) {
		products[j] = a[j].Times(b[i])
	}
	return common.Folded(rational.Number.Plus, products)
}

// mirrored returns values with the index j at the index -j, where indices are taken modulo their number.
func mirrored(values []rational.Number) []rational.Number {
	others := slices.Clone(values)
	slices.Reverse(others[1:])
	return others
}

// Cyclic returns the cyclic convolution of values.
func Cyclic(a, b []api.Rat) ([]api.Rat, api.Errno) {
	x, y, e := readPair(a, b)
	if e != api.OK {
		return nil, e
	}
	// The product of a(j) and b(i - j) is that of the mirrored a at -j and b at i more.
	back := mirrored(x)
	return written(len(x), func(i int) rational.Number { return correlation(back, y, i) })
}

// Cross returns the cyclic correlation of values.
func Cross(a, b []api.Rat) ([]api.Rat, api.Errno) {
	x, y, e := readPair(a, b)
	if e != api.OK {
		return nil, e
	}
	return written(len(x), func(s int) rational.Number { return correlation(x, y, s) })
}

// Delay returns the rotation with the greatest correlation.
func Delay(a, b []api.Rat) (int, api.Errno) {
	x, y, e := readPair(a, b)
	if e != api.OK {
		return 0, e
	}
	delay, greatest := 0, correlation(x, y, 0)
	for s := 1; s < len(x); s++ {
		if sum := correlation(x, y, s); sum.Compare(greatest) > 0 {
			delay, greatest = s, sum
		}
	}
	return delay, api.OK
}
