package record_test

import (
	"math"
	"slices"
	"strings"
	"testing"

	"strobe/api"
	"strobe/rational"
	"strobe/record"
)

// read returns the value of a valid number.
func read(t *testing.T, a api.Rat) rational.Number {
	t.Helper()
	x, e := rational.Read(a)
	if e != api.OK {
		t.Fatalf("no number: %s", a)
	}
	return x
}

// small returns a number above 0 that is far below each float above 0.
func small() api.Rat { return api.Rat("1/" + strings.Repeat("9", 600)) }

func TestSigns(t *testing.T) {
	negativeZero := float32(math.Copysign(0, -1))
	least := float32(math.SmallestNonzeroFloat32)
	for _, row := range []struct {
		samples []float32
		level   api.Rat
		signs   []int
	}{
		{nil, "1", []int{}}, {[]float32{0, 1, 2}, "1", []int{-1, 0, 1}}, {[]float32{0, negativeZero, least, -least}, "0", []int{0, 0, 1, -1}},
		{[]float32{0, least, -least}, small(), []int{-1, 1, -1}}, {[]float32{0, least, -least}, "-" + small(), []int{1, 1, -1}}, {[]float32{0.33333334, 0.33333331}, "1/3", []int{1, -1}}, {[]float32{math.MaxFloat32, -math.MaxFloat32}, api.Rat(strings.Repeat("9", 600)), []int{-1, -1}},
	} {
		if got := record.Signs(row.samples, read(t, row.level)); !slices.Equal(got, row.signs) {
			t.Errorf("Signs %v, %s: got %v, want %v", row.samples, row.level, got, row.signs)
		}
	}
}

func TestSureSides(t *testing.T) {
	for _, row := range []struct {
		samples      []float32
		level, noise api.Rat
		sides        []int
	}{
		{nil, "1", "1", []int{}}, {[]float32{0, 1, 2}, "1", "0", []int{-1, 0, 1}}, {[]float32{-1, 0, 1, 2, 3}, "1", "1", []int{-1, 0, 0, 0, 1}}, {[]float32{-1, 0, 1, 2, 3}, "1", "3", []int{0, 0, 0, 0, 0}},
		{[]float32{0, 2}, "1", "999/1000", []int{-1, 1}}, {[]float32{0, 1, -1}, "0", small(), []int{0, 1, -1}}, {[]float32{0, 1}, "1/2", "1/2", []int{0, 0}},
	} {
		if got := record.SureSides(row.samples, read(t, row.level), read(t, row.noise)); !slices.Equal(got, row.sides) {
			t.Errorf("SureSides %v, %s, %s: got %v, want %v", row.samples, row.level, row.noise, got, row.sides)
		}
	}
}

func TestPassageEnd(t *testing.T) {
	for _, row := range []struct {
		sides []int
		ends  []int
	}{
		{nil, nil}, {[]int{1}, []int{0}}, {[]int{-1, 1}, []int{1, 1}}, {[]int{1, -1, 1}, []int{1, 2, 2}}, {[]int{1, 1, -1}, []int{0, 2, 2}}, {[]int{0, 1, -1, 0}, []int{0, 2, 2, 3}},
		{[]int{-1, 0, 0, 1}, []int{3, 1, 2, 3}}, {[]int{-1, 0, -1, 0, 1, 0, 0}, []int{0, 1, 4, 3, 4, 5, 6}}, {[]int{0, 0, 0}, []int{0, 1, 2}},
	} {
		for from, wanted := range row.ends {
			if end := record.PassageEnd(row.sides, from); end != wanted {
				t.Errorf("PassageEnd %v, %d: got %d, want %d", row.sides, from, end, wanted)
			}
		}
	}
}
