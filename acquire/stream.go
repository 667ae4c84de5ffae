package acquire

import (
	"strobe/api"
	"strobe/common"
)

// Acquire returns the segments of a whole stream.
func Acquire(s Setup, samples []float32, triggers []bool, arms []int) ([]Segment, api.Errno) {
	e := common.FirstError(CheckSetup(s), checkStream(samples, triggers), checkArms(arms, len(samples)))
	if e != api.OK {
		return nil, e
	}
	m := &Machine{setup: s}
	m.follow(samples, triggers, arms)
	return m.Segments(), api.OK
}

// Accepted returns the times of all triggers that are accepted.
func Accepted(s Setup, triggers []bool, arms []int) ([]int, api.Errno) {
	e := common.FirstError(CheckSetup(s), common.AtMost(triggers, api.MaxSamples), checkArms(arms, len(triggers)))
	if e != api.OK {
		return nil, e
	}
	m := &Machine{setup: s}
	return m.follow(make([]float32, len(triggers)), triggers, arms), api.OK
}

// follow gives a new machine a stream, rearms it before the samples with some times, and returns the times of the triggers
// that it accepts. It leaves out what changes neither these times nor the segments: a rearming at the end of the stream,
// and the error of a rearming after the last possible segment.
func (m *Machine) follow(samples []float32, triggers []bool, arms []int) []int {
	var accepted []int
	for t := range len(samples) {
		for len(arms) > 0 && arms[0] == t {
			m.Rearm()
			arms = arms[1:]
		}
		if m.take(samples[t], triggers[t]) {
			accepted = append(accepted, t)
		}
	}
	return accepted
}

// Dead returns the least time between two triggers that are accepted.
func Dead(s Setup) (int, api.Errno) {
	if e := CheckSetup(s); e != api.OK {
		return 0, e
	}
	return s.Post + max(s.Pre, s.Holdoff), api.OK
}
