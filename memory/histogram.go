package memory

import (
	"slices"

	"strobe/api"
	"strobe/common"
	"strobe/number"
)

// checkLimits returns the error of the limits of bins.
func checkLimits(limits []float32) api.Errno {
	if e := common.FirstError(common.ErrorIf(len(limits) == 0, api.ErrEmpty), common.AtMost(limits, MaxBins)); e != api.OK {
		return e
	}
	for i, limit := range limits {
		isInOrder := i == 0 || limits[i-1] < limit
		if e := common.FirstError(checkFinite(limit), common.ErrorIf(!isInOrder, api.ErrOrder)); e != api.OK {
			return e
		}
	}
	return api.OK
}

// Histogram returns how many samples lie between limits.
func Histogram(samples []float32, limits []float32) ([]int, api.Errno) {
	if e := common.FirstError(number.CheckSamples(samples), checkLimits(limits)); e != api.OK {
		return nil, e
	}
	counts := make([]int, len(limits)+1)
	for _, sample := range samples {
		bin, isLimit := slices.BinarySearch(limits, sample)
		if isLimit {
			bin++
		}
		counts[bin]++
	}
	return counts, api.OK
}
