package probe_test

import (
	"math"
	"slices"
	"testing"

	"strobe/api"
	"strobe/probe"
)

// counted returns the samples from, from + 1, .. of n times.
func counted(from, n int) []float32 {
	samples := make([]float32, n)
	for i := range samples {
		samples[i] = float32(from + i)
	}
	return samples
}

// sameRecords compares aligned records.
func sameRecords(t *testing.T, got [][]float32, gotError api.Errno, wanted [][]float32, wantedError api.Errno) {
	t.Helper()
	if len(got) != len(wanted) || gotError != wantedError {
		t.Errorf("Aligned: got %v, %d, want %v, %d", got, gotError, wanted, wantedError)
		return
	}
	for i := range wanted {
		sameRecord(t, "Aligned", got[i], gotError, wanted[i], wantedError)
	}
}

// P2.5: aligned records.
func TestAligned(t *testing.T) {
	for _, row := range []struct {
		records [][]float32
		skews   []int
		aligned [][]float32
	}{
		{[][]float32{{1, 2, 3, 4}, {2, 3, 4}}, []int{1, 0}, [][]float32{{2, 3, 4}, {2, 3, 4}}}, {[][]float32{{1, 2, 3}}, []int{0}, [][]float32{{1, 2, 3}}}, {[][]float32{{1, 2, 3}}, []int{1000}, [][]float32{{1, 2, 3}}}, {[][]float32{{1, 2, 3}}, []int{-1000}, [][]float32{{1, 2, 3}}},
		{[][]float32{{1, 2, 3}, {4, 5, 6}}, []int{0, 2}, [][]float32{{1}, {6}}}, {[][]float32{{1, 2, 3}, {4, 5, 6}}, []int{0, -2}, [][]float32{{3}, {4}}}, {[][]float32{{1, 2, 3}, {4, 5, 6}, {7, 8, 9}}, []int{0, 1, -1}, [][]float32{{2}, {6}, {7}}},
		{[][]float32{counted(0, 1001), {5}}, []int{1000, 0}, [][]float32{{1000}, {5}}}, {[][]float32{counted(0, 2001), {5}}, []int{1000, -1000}, [][]float32{{2000}, {5}}},
		{slices.Repeat([][]float32{counted(0, 4096)}, 8), make([]int, 8), slices.Repeat([][]float32{counted(0, 4096)}, 8)},
		// No result is -0.
		{[][]float32{{negativeZero(), 1}, {2, negativeZero()}}, []int{3, 3}, [][]float32{{0, 1}, {2, 0}}},
	} {
		aligned, e := probe.Aligned(row.records, row.skews)
		sameRecords(t, aligned, e, row.aligned, api.OK)
	}
}

// P2.5: aligned records by the definition.
func TestAlignedByDefinition(t *testing.T) {
	r := source(7)
	for range 300 {
		records, skews := make([][]float32, 1+r.Intn(8)), []int{}
		for i := range records {
			records[i] = counted(100*i, r.Intn(12))
			skews = append(skews, r.Intn(9)-4)
		}
		aligned, e := probe.Aligned(records, skews)
		wanted, wantedError := referenceAligned(records, skews)
		sameRecords(t, aligned, e, wanted, wantedError)
	}
}

// referenceAligned asks every time for a sample of each record.
func referenceAligned(records [][]float32, skews []int) ([][]float32, api.Errno) {
	aligned := make([][]float32, len(records))
	for time := -20; time <= 20; time++ {
		var samples []float32
		for i, record := range records {
			if k := time + skews[i]; k >= 0 && k < len(record) {
				samples = append(samples, record[k])
			}
		}
		if len(samples) < len(records) {
			continue
		}
		for i, sample := range samples {
			aligned[i] = append(aligned[i], sample)
		}
	}
	if len(aligned[0]) == 0 {
		return nil, api.ErrShort
	}
	return aligned, api.OK
}

// P2.5: the errors of records and skews, in their order.
func TestAlignedErrors(t *testing.T) {
	many, bad, short := make([]float32, 4097), notFinite(), []float32{1}
	for _, row := range []struct {
		records [][]float32
		skews   []int
		e       api.Errno
	}{
		{nil, nil, api.ErrEmpty}, {[][]float32{}, []int{1}, api.ErrEmpty}, {nil, []int{2000}, api.ErrEmpty}, {make([][]float32, 9), make([]int, 9), api.ErrMany}, {append([][]float32{bad}, make([][]float32, 8)...), nil, api.ErrMany},
		{[][]float32{short, many}, []int{0, 0}, api.ErrMany}, {[][]float32{short, bad}, []int{0, 0}, api.ErrForm}, {[][]float32{many, bad}, nil, api.ErrMany}, {[][]float32{bad, many}, nil, api.ErrForm}, {[][]float32{short, many, bad}, []int{2000}, api.ErrMany},
		{[][]float32{short}, nil, api.ErrShape}, {[][]float32{short}, []int{0, 0}, api.ErrShape}, {[][]float32{short, short}, []int{2000}, api.ErrShape}, {[][]float32{short, short}, []int{0, 0, 5000}, api.ErrShape}, {[][]float32{nil}, nil, api.ErrShape},
		{[][]float32{short}, []int{1001}, api.ErrRange}, {[][]float32{short}, []int{-1001}, api.ErrRange}, {[][]float32{short, nil}, []int{0, math.MinInt}, api.ErrRange}, {[][]float32{nil, short}, []int{0, math.MaxInt}, api.ErrRange},
		{[][]float32{nil}, []int{0}, api.ErrShort}, {[][]float32{short, nil}, []int{0, 0}, api.ErrShort}, {[][]float32{short, short}, []int{0, 1}, api.ErrShort}, {[][]float32{short, short}, []int{1, 0}, api.ErrShort}, {[][]float32{counted(0, 1000), short}, []int{1000, 0}, api.ErrShort}, {[][]float32{counted(0, 2000), short}, []int{1000, -1000}, api.ErrShort},
	} {
		aligned, e := probe.Aligned(row.records, row.skews)
		sameRecords(t, aligned, e, nil, row.e)
	}
	for _, f := range notFinite() {
		aligned, e := probe.Aligned([][]float32{{1, 2}, {3, f}}, []int{0, 0})
		sameRecords(t, aligned, e, nil, api.ErrForm)
	}
}

// P2.5: aligned records share no memory with the records or with each other.
func TestAlignedIsNew(t *testing.T) {
	record := counted(0, 5)
	records := [][]float32{record, record}
	aligned, e := probe.Aligned(records, []int{0, 0})
	aligned[0][1] = 9
	sameRecord(t, "the record", record, e, counted(0, 5), api.OK)
	sameRecord(t, "the other record", aligned[1], e, counted(0, 5), api.OK)
	aligned[0] = append(aligned[0][:2], 7)
	sameRecord(t, "the other record", aligned[1], e, counted(0, 5), api.OK)
}
