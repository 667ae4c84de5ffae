package acquire

import (
	"strobe/api"
	"strobe/common"
	"strobe/number"
)

// CheckSetup returns the first error of a set-up, or OK.
func CheckSetup(s Setup) api.Errno {
	return common.FirstError(
		common.InRange(s.Pre, 0, MaxDepth),
		common.InRange(s.Post, 1, MaxDepth),
		common.InRange(s.Holdoff, 0, api.MaxSamples),
		common.InRange(s.Segments, 1, api.MaxSegments),
	)
}

// checkStream returns the error of samples, and ErrShape if there are not as many triggers.
func checkStream(samples []float32, triggers []bool) api.Errno {
	if e := number.CheckSamples(samples); e != api.OK {
		return e
	}
	if len(triggers) != len(samples) {
		return api.ErrShape
	}
	return api.OK
}

// checkArms returns the error of the times at which a machine is rearmed that is given n samples.
func checkArms(arms []int, n int) api.Errno {
	if e := common.AtMost(arms, api.MaxList); e != api.OK {
		return e
	}
	last := 0
	for _, arm := range arms {
		if e := common.InRange(arm, 0, n); e != api.OK {
			return e
		}
		if arm < last {
			return api.ErrOrder
		}
		last = arm
	}
	return api.OK
}

// CheckSegments returns the first error of segments, or OK.
func CheckSegments(l []Segment) api.Errno {
	if e := common.AtMost(l, api.MaxSegments); e != api.OK {
		return e
	}
	for before, s := range visited(l) {
		if e := checkSegment(s, before); e != api.OK {
			return e
		}
	}
	return api.OK
}

// checkSegment returns the first error of a segment, where before is the end of the one before it.
func checkSegment(s Segment, before int) api.Errno {
	if e := common.FirstError(common.InRange(s.Start, 0, api.MaxNumber), number.CheckSamples(s.Samples)); e != api.OK {
		return e
	}
	if len(s.Samples) == 0 {
		return api.ErrEmpty
	}
	if e := common.InRange(s.Trigger, s.Start, s.end()-1); e != api.OK {
		return e
	}
	if s.Start < before {
		return api.ErrOrder
	}
	if s.Lost != s.Start-before {
		return api.ErrConflict
	}
	return common.InRange(s.Missed, 0, api.MaxNumber)
}

// checkAlike returns the error of segments, ErrEmpty if there are none, and ErrShape if they do not all have as many samples.
func checkAlike(l []Segment) api.Errno {
	if e := CheckSegments(l); e != api.OK {
		return e
	}
	if len(l) == 0 {
		return api.ErrEmpty
	}
	for _, s := range visited(l) {
		if len(s.Samples) != len(l[0].Samples) {
			return api.ErrShape
		}
	}
	return api.OK
}

// checkBits returns the error of the number of bits of time stamps.
func checkBits(bits int) api.Errno {
	return common.InRange(bits, 1, MaxBits)
}
