package acquire_test

import (
	"math"
	"slices"
	"testing"

	"strobe/acquire"
	"strobe/api"
)

// badBits returns numbers of bits that are out of their range.
func badBits() []int { return []int{math.MinInt, -1, 0, 31, 64, math.MaxInt} }

// P3.4: the example 5 of the chapter.
func TestExampleOfStamps(t *testing.T) {
	stamps, e := acquire.Stamps(exampleSegments(), 3)
	sameList(t, "Stamps", stamps, e, []int{3, 2}, api.OK)
	times, e := acquire.Unwrap(stamps, 3)
	sameList(t, "Unwrap", times, e, []int{3, 10}, api.OK)
}

// P3.4: the stamps of all numbers of bits.
func TestStamps(t *testing.T) {
	latest := []acquire.Segment{{Start: api.MaxNumber, Trigger: api.MaxNumber + 4095, Samples: make([]float32, 4096), Lost: api.MaxNumber}}
	for bits := 1; bits <= acquire.MaxBits; bits++ {
		for _, l := range [][]acquire.Segment{nil, exampleSegments(), manySegments(64), latest} {
			var wanted []int
			for _, time := range triggersOf(l) {
				wanted = append(wanted, int(math.Mod(float64(time), math.Pow(2, float64(bits)))))
			}
			stamps, e := acquire.Stamps(l, bits)
			sameList(t, "Stamps", stamps, e, wanted, api.OK)
		}
	}
	for _, bits := range badBits() {
		stamps, e := acquire.Stamps(exampleSegments(), bits)
		sameList(t, "Stamps", stamps, e, nil, api.ErrRange)
	}
}

// P3.4: equal stamps are a whole period apart.
func TestUnwrap(t *testing.T) {
	for _, row := range []struct {
		stamps []int
		bits   int
		times  []int
	}{
		{nil, 1, nil}, {[]int{0}, 1, []int{0}}, {[]int{1, 1, 1}, 1, []int{1, 3, 5}}, {[]int{0, 1, 0, 0, 1}, 1, []int{0, 1, 2, 4, 5}},
		{[]int{7, 0, 7, 6}, 3, []int{7, 8, 15, 22}}, {[]int{5, 6, 7}, 3, []int{5, 6, 7}}, {[]int{0, 0}, 29, []int{0, 1 << 29}}, {[]int{999999999}, 30, []int{999999999}}, {[]int{463129088, 463129087}, 29, []int{463129088, 999999999}},
	} {
		times, e := acquire.Unwrap(row.stamps, row.bits)
		sameList(t, "Unwrap", times, e, row.times, api.OK)
	}
	times, e := acquire.Unwrap(make([]int, 256), 21)
	same(t, "the last of 256 times", times[255], e, 255<<21, api.OK)
}

// P3.4: the least later time with a stamp, one after the other.
func TestUnwrapByDefinition(t *testing.T) {
	r := source(8)
	for range 300 {
		bits := 1 + r.Intn(6)
		stamps := make([]int, r.Intn(40))
		var wanted []int
		time := -1
		for i := range stamps {
			stamps[i] = r.Intn(1 << bits)
			for time++; time%(1<<bits) != stamps[i]; {
				time++
			}
			wanted = append(wanted, time)
		}
		times, e := acquire.Unwrap(stamps, bits)
		sameList(t, "Unwrap", times, e, wanted, api.OK)
	}
}

// P3.4: the errors of stamps, in their order.
func TestUnwrapErrors(t *testing.T) {
	for _, bits := range badBits() {
		for _, stamps := range [][]int{nil, {0}, {-1}, make([]int, 257)} {
			times, e := acquire.Unwrap(stamps, bits)
			sameList(t, "Unwrap", times, e, nil, api.ErrRange)
		}
	}
	for _, row := range []struct {
		stamps []int
		bits   int
		e      api.Errno
	}{
		{make([]int, 257), 1, api.ErrMany}, {slices.Repeat([]int{-1}, 257), 1, api.ErrMany},
		{[]int{2}, 1, api.ErrRange}, {[]int{-1}, 1, api.ErrRange}, {[]int{0, 1, math.MinInt}, 30, api.ErrRange}, {[]int{1 << 30}, 30, api.ErrRange}, {[]int{0, math.MaxInt}, 30, api.ErrRange},
		{[]int{1000000000}, 30, api.ErrLarge}, {[]int{1<<30 - 1}, 30, api.ErrLarge}, {[]int{0, 0}, 30, api.ErrLarge}, {[]int{463129089, 463129088}, 29, api.ErrLarge}, {make([]int, 256), 22, api.ErrLarge},
		// All stamps are examined before the times are.
		{[]int{1000000000, -1}, 30, api.ErrRange}, {[]int{0, 0, 0, 1 << 30}, 30, api.ErrRange},
	} {
		times, e := acquire.Unwrap(row.stamps, row.bits)
		sameList(t, "Unwrap", times, e, nil, row.e)
	}
}

// P3.4: the stamps do not change.
func TestUnwrapSharesNothing(t *testing.T) {
	stamps := []int{3, 2}
	times, _ := acquire.Unwrap(stamps, 3)
	times[0] = 9
	sameList(t, "the stamps", stamps, 0, []int{3, 2}, 0)
}
