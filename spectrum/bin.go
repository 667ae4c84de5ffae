package spectrum

import (
	"strobe/api"
	"strobe/common"
	"strobe/rational"
)

// readBin returns the enclosure of a bin of values, or the first error of the arguments.
func readBin(values []api.Rat, k, decimals int) (phasor, api.Errno) {
	x, e := readValues(values)
	if e := common.FirstError(e, checkBin(k, len(x)), checkDecimals(decimals)); e != api.OK {
		return phasor{}, e
	}
	return circleOf(len(x), decimals).bin(x, k), api.OK
}

// Bin returns enclosures of the real and the imaginary part of a DFT bin.
func Bin(values []api.Rat, k, decimals int) ([2]api.Span, api.Errno) {
	bin, e := readBin(values, k, decimals)
	if e != api.OK {
		return [2]api.Span{}, e
	}
	spans, e := common.Converted([]rational.Interval{bin.real, bin.imaginary}, rational.Interval.Write)
	if e != api.OK {
		return [2]api.Span{}, e
	}
	return [2]api.Span(spans), api.OK
}

// Power returns an enclosure of the squared magnitude of a DFT bin.
func Power(values []api.Rat, k, decimals int) (api.Span, api.Errno) {
	bin, e := readBin(values, k, decimals)
	if e != api.OK {
		return api.Span{}, e
	}
	return bin.power().Write()
}

// Peak returns the bin that surely has the greatest power.
func Peak(values []api.Rat, decimals int) (int, api.Errno) {
	x, e := readValues(values)
	if e := common.FirstError(e, checkDecimals(decimals)); e != api.OK {
		return 0, e
	}
	c := circleOf(len(x), decimals)
	powers := make([]rational.Interval, len(x)/2+1)
	for k := range powers {
		powers[k] = c.bin(x, k).power()
	}
	return peakOf(powers)
}

// peakOf returns the index of the interval that is above all others, or ErrOpen if there is none.
func peakOf(powers []rational.Interval) (int, api.Errno) {
	peak, e := 0, api.ErrOpen
search:
	for k, power := range powers {
		for i, other := range powers {
			if i != k && power.Low.Compare(other.High) <= 0 {
				continue search
			}
		}
		peak, e = k, api.OK
		break search
	}
	return peak, e
}
