package probe

import (
	"strobe/api"
	"strobe/common"
	"strobe/number"
)

// Sampled returns the samples of nominal voltages.
func Sampled(a Adc, volts []api.Rat) ([]float32, api.Errno) {
	if e := common.FirstError(CheckAdc(a), checkVoltages(volts)); e != api.OK {
		return nil, e
	}
	return common.Transformed(volts, a.sample), api.OK
}

// Codes returns the codes of samples.
func Codes(a Adc, samples []float32) ([]int, api.Errno) {
	if e := common.FirstError(CheckAdc(a), number.CheckSamples(samples)); e != api.OK {
		return nil, e
	}
	known := a.codesOfSamples()
	codes := make([]int, len(samples))
	for i, sample := range samples {
		code, ok := known[sample]
		if !ok {
			return nil, api.ErrRange
		}
		codes[i] = code
	}
	return codes, api.OK
}

// codesOfSamples returns the code of each nominal voltage.
func (a Adc) codesOfSamples() map[float32]int {
	codes := make(map[float32]int, a.top()+1)
	for code := range a.top() + 1 {
		codes[a.nominal(code)] = code
	}
	return codes
}

// Clipped returns the ranges of samples that have the first or the last code.
func Clipped(a Adc, samples []float32) ([][2]int, api.Errno) {
	codes, e := Codes(a, samples)
	if e != api.OK {
		return nil, e
	}
	return ranges(codes, a.isEnd), api.OK
}

// ranges returns the longest ranges of consecutive codes with a property.
func ranges(codes []int, has func(int) bool) [][2]int {
	var found [][2]int
search:
	for from := 0; from < len(codes); from++ {
		if !has(codes[from]) {
			continue
		}
		for to := from + 1; to < len(codes); to++ {
			if !has(codes[to]) {
				found = append(found, [2]int{from, to})
				from = to
				continue search
			}
		}
		found = append(found, [2]int{from, len(codes)})
		break
	}
	return found
}

// Aligned returns records whose samples with the same index belong to the same time.
func Aligned(records [][]float32, skews []int) ([][]float32, api.Errno) {
	if e := common.FirstError(checkRecords(records), checkSkews(skews, len(records))); e != api.OK {
		return nil, e
	}
	from, to := commonTimes(records, skews)
	if from >= to {
		return nil, api.ErrShort
	}
	aligned := make([][]float32, len(records))
	for i, record := range records {
		aligned[i] = common.Transformed(record[from+skews[i]:to+skews[i]], common.PositiveZero)
	}
	return aligned, api.OK
}

// checkRecords returns ErrEmpty or ErrMany if there are not from 1 to MaxChannels records, and then the first error of their samples.
func checkRecords(records [][]float32) api.Errno {
	if len(records) == 0 {
		return api.ErrEmpty
	}
	if e := common.AtMost(records, api.MaxChannels); e != api.OK {
		return e
	}
	return common.FirstError(common.Transformed(records, number.CheckSamples)...)
}

// checkSkews returns ErrShape if there are not n skews, and then the first error of one.
func checkSkews(skews []int, n int) api.Errno {
	if len(skews) != n {
		return api.ErrShape
	}
	return common.FirstError(common.Transformed(skews, func(skew int) api.Errno { return common.InRange(skew, -MaxSkew, MaxSkew) })...)
}

// commonTimes returns the first time at which every record has a sample, and the time after the last one.
func commonTimes(records [][]float32, skews []int) (int, int) {
	from, to := -MaxSkew, api.MaxSamples+MaxSkew
	for i, record := range records {
		from = max(from, -skews[i])
		to = min(to, len(record)-skews[i])
	}
	return from, to
}
