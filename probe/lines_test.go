package probe_test

import (
	"math"
	"slices"
	"testing"

	"strobe/api"
	"strobe/probe"
)

// yes returns a line in which the samples with the letter x are true.
func yes(line string) []bool {
	l := make([]bool, len(line))
	for i, c := range line {
		l[i] = c == 'x'
	}
	return l
}

// P2.3: the errors of thresholds.
func TestCheckLevels(t *testing.T) {
	for _, row := range []struct {
		low, high float32
		e         api.Errno
	}{
		{0, 1, api.OK}, {-1, 0, api.OK}, {-2, -1, api.OK}, {1, math.Nextafter32(1, 2), api.OK}, {-math.MaxFloat32, math.MaxFloat32, api.OK}, {0, math.SmallestNonzeroFloat32, api.OK}, {-math.SmallestNonzeroFloat32, 0, api.OK},
		{0, 0, api.ErrOrder}, {1, 1, api.ErrOrder}, {1, 0, api.ErrOrder}, {-1, -2, api.ErrOrder}, {negativeZero(), 0, api.ErrOrder}, {0, negativeZero(), api.ErrOrder}, {math.MaxFloat32, -math.MaxFloat32, api.ErrOrder},
	} {
		same(t, "CheckLevels", row, probe.CheckLevels(probe.Levels{Low: row.low, High: row.high}), row, row.e)
	}
	for _, f := range notFinite() {
		for _, l := range []probe.Levels{{Low: f, High: 1}, {Low: 0, High: f}, {Low: f, High: f}} {
			same(t, "CheckLevels", 0, probe.CheckLevels(l), 0, api.ErrForm)
		}
	}
}

// P2.3: the line of the chapter's example, and lines at the thresholds.
func TestDigital(t *testing.T) {
	unit := probe.Levels{Low: 0, High: 1}
	for _, row := range []struct {
		samples []float32
		l       probe.Levels
		before  bool
		line    string
	}{
		{[]float32{0, 1, 0.5, 0, 0.5, 1}, unit, false, "_xx__x"}, {[]float32{0, 1, 0.5, 0, 0.5, 1}, unit, true, "_xx__x"}, {nil, unit, true, ""}, {[]float32{0.5, 0.5}, unit, true, "xx"}, {[]float32{0.5, 0.5}, unit, false, "__"},
		{[]float32{math.Nextafter32(1, 0)}, unit, false, "_"}, {[]float32{math.Nextafter32(1, 0)}, unit, true, "x"}, {[]float32{math.SmallestNonzeroFloat32}, unit, true, "x"}, {[]float32{math.SmallestNonzeroFloat32}, unit, false, "_"}, {[]float32{negativeZero()}, unit, true, "_"}, {[]float32{negativeZero()}, probe.Levels{Low: -1, High: 0}, false, "x"}, {[]float32{0}, probe.Levels{Low: -1, High: negativeZero()}, false, "x"},
		{[]float32{math.MaxFloat32, -math.MaxFloat32}, unit, false, "x_"}, {[]float32{2, 0.9, 0.1, -3, 0.9, 1.5}, unit, false, "xxx__x"},
	} {
		check := unchanged(t, "Digital", bitsOf(row.samples))
		line, e := probe.Digital(row.samples, row.l, row.before)
		sameList(t, "Digital", line, e, yes(row.line), api.OK)
		check()
	}
}

// P2.3: lines by the definition.
func TestDigitalByDefinition(t *testing.T) {
	r := source(5)
	for range 300 {
		l := probe.Levels{Low: float32(r.Intn(5)), High: float32(5 + r.Intn(4))}
		samples, wanted := make([]float32, r.Intn(60)), []bool{}
		before := r.Intn(2) == 0
		value := before
		for i := range samples {
			samples[i] = float32(r.Intn(20)) / 2
			switch {
			case samples[i] >= l.High:
				value = true
			case samples[i] <= l.Low:
				value = false
			}
			wanted = append(wanted, value)
		}
		line, e := probe.Digital(samples, l, before)
		sameList(t, "Digital", line, e, wanted, api.OK)
	}
}

// P2.3: the errors of samples, then those of the thresholds.
func TestDigitalErrors(t *testing.T) {
	unit, equal, infinite := probe.Levels{Low: 0, High: 1}, probe.Levels{}, probe.Levels{High: float32(math.Inf(1))}
	line, e := probe.Digital(make([]float32, 4096), unit, true)
	sameList(t, "Digital 4096", line, e, make([]bool, 4096), api.OK)
	for _, row := range []struct {
		samples []float32
		l       probe.Levels
		e       api.Errno
	}{
		{make([]float32, 4097), unit, api.ErrMany}, {make([]float32, 4097), infinite, api.ErrMany}, {make([]float32, 4097), equal, api.ErrMany}, {notFinite(), equal, api.ErrForm}, {[]float32{1}, equal, api.ErrOrder}, {nil, equal, api.ErrOrder}, {nil, infinite, api.ErrForm}, {[]float32{0}, infinite, api.ErrForm},
	} {
		line, e := probe.Digital(row.samples, row.l, true)
		sameList(t, "Digital", line, e, nil, row.e)
	}
	for _, f := range notFinite() {
		line, e := probe.Digital([]float32{0, 1, f}, unit, false)
		sameList(t, "Digital", line, e, nil, api.ErrForm)
	}
}

// P2.3: changes of lines, and the lines with these changes.
func TestChanges(t *testing.T) {
	for _, row := range []struct {
		line   string
		before bool
		times  []int
	}{
		{"_xx__x", false, []int{1, 3, 5}}, {"_xx__x", true, []int{0, 1, 3, 5}}, {"", true, nil}, {"", false, nil}, {"x", false, []int{0}}, {"x", true, nil}, {"_", true, []int{0}}, {"____", false, nil}, {"____x", false, []int{4}}, {"x_x_", false, []int{0, 1, 2, 3}},
	} {
		line := yes(row.line)
		check := unchanged(t, "Changes", line)
		times, e := probe.Changes(line, row.before)
		sameList(t, "Changes", times, e, row.times, api.OK)
		check()
		check = unchanged(t, "FromChanges", row.times)
		again, e := probe.FromChanges(row.times, row.before, len(line))
		sameList(t, "FromChanges", again, e, line, api.OK)
		check()
	}
}

// P2.3: the numbers of samples and times, and their errors.
func TestChangesErrors(t *testing.T) {
	times, e := probe.Changes(slices.Repeat([]bool{true}, 4096), false)
	sameList(t, "Changes 4096", times, e, []int{0}, api.OK)
	times, e = probe.Changes(make([]bool, 4097), true)
	sameList(t, "Changes 4097", times, e, nil, api.ErrMany)
	all := make([]int, 4097)
	for i := range all {
		all[i] = i
	}
	for _, row := range []struct {
		times []int
		n     int
		e     api.Errno
	}{
		{nil, 0, api.OK}, {nil, 4096, api.OK}, {all[:4096], 4096, api.OK}, {[]int{4095}, 4096, api.OK},
		{all, 4096, api.ErrMany}, {all, -1, api.ErrMany}, {all, 0, api.ErrMany}, {nil, -1, api.ErrRange}, {nil, 4097, api.ErrRange}, {nil, math.MinInt, api.ErrRange}, {nil, math.MaxInt, api.ErrRange}, {[]int{1, 1}, 4097, api.ErrRange}, {[]int{1, 1}, math.MinInt, api.ErrRange},
		{[]int{0}, 0, api.ErrRange}, {[]int{-1}, 5, api.ErrRange}, {[]int{5}, 5, api.ErrRange}, {[]int{math.MinInt}, 5, api.ErrRange}, {[]int{math.MaxInt}, 5, api.ErrRange}, {[]int{1, 1}, 5, api.ErrOrder}, {[]int{0, 0}, 5, api.ErrOrder}, {[]int{2, 1}, 5, api.ErrOrder},
		// The first time with an error decides, and its range comes first.
		{[]int{2, 1, 9}, 5, api.ErrOrder}, {[]int{2, 9, 1}, 5, api.ErrRange}, {[]int{2, -1}, 5, api.ErrRange}, {[]int{0, 1, 2, 2}, 5, api.ErrOrder},
	} {
		line, e := probe.FromChanges(row.times, true, row.n)
		wanted := []bool(nil)
		if row.e == api.OK {
			wanted = referenceLine(row.times, true, row.n)
		}
		sameList(t, "FromChanges", line, e, wanted, row.e)
	}
}

// referenceLine returns the line in which an odd number of changes up to a sample means a value other than before.
func referenceLine(times []int, before bool, n int) []bool {
	line := make([]bool, n)
	for i := range line {
		line[i] = before
		for _, time := range times {
			if time <= i {
				line[i] = !line[i]
			}
		}
	}
	return line
}
