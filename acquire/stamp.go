package acquire

import (
	"strobe/api"
	"strobe/common"
)

// Stamps returns the time stamps of the triggers of segments.
func Stamps(l []Segment, bits int) ([]int, api.Errno) {
	if e := common.FirstError(CheckSegments(l), checkBits(bits)); e != api.OK {
		return nil, e
	}
	period := 1 << bits
	return common.Transformed(l, func(s Segment) int { return s.Trigger % period }), api.OK
}

// Unwrap returns the times with certain time stamps.
func Unwrap(stamps []int, bits int) ([]int, api.Errno) {
	if e := common.FirstError(checkBits(bits), common.AtMost(stamps, api.MaxList)); e != api.OK {
		return nil, e
	}
	period := 1 << bits
	inPeriod := func(stamp int) api.Errno { return common.InRange(stamp, 0, period-1) }
	if e := common.FirstError(common.Transformed(stamps, inPeriod)...); e != api.OK {
		return nil, e
	}
	times := make([]int, len(stamps))
	from := 0
	for i, stamp := range stamps {
		// The mask makes the rest of a negative difference positive, too.
		times[i] = from + (stamp-from)&(period-1)
		if times[i] > api.MaxNumber {
			return nil, api.ErrLarge
		}
		from = times[i] + 1
	}
	return times, api.OK
}
