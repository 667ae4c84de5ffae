package memory

import (
	"slices"

	"strobe/api"
	"strobe/common"
)

// The bytes of a packed run, and the words of the longest run.
const (
	runBytes = 3
	maxRun   = 255
)

// run is a number of equal words.
type run struct {
	length int
	word   uint16
}

// firstRun returns the run with which words begin, at least one.
func firstRun(words []uint16) run {
	r := run{1, words[0]}
	for r.length < min(len(words), maxRun) && words[r.length] == r.word {
		r.length++
	}
	return r
}

// packed returns the bytes of a run.
func (r run) packed() []byte {
	return []byte{byte(r.length), byte(r.word % 256), byte(r.word / 256)}
}

// unpackedRun returns the run that some bytes stand for.
func unpackedRun(data []byte) run {
	return run{int(data[0]), uint16(data[1]) + 256*uint16(data[2])}
}

// continues reports whether a run belongs to the one before it, which would have been longer. There is none before the first
// one: its length is 0.
func (r run) continues(before run) bool {
	return r.word == before.word && before.length > 0 && before.length < maxRun
}

// PackWords returns words as bytes, run by run.
func PackWords(words []uint16) ([]byte, api.Errno) {
	if e := common.AtMost(words, api.MaxSamples); e != api.OK {
		return nil, e
	}
	var data []byte
	for len(words) > 0 {
		r := firstRun(words)
		data = append(data, r.packed()...)
		words = words[r.length:]
	}
	return data, api.OK
}

// UnpackWords returns the words in bytes.
func UnpackWords(data []byte) ([]uint16, api.Errno) {
	isLong, isTorn := len(data) > runBytes*api.MaxSamples, len(data)%runBytes != 0
	if e := common.FirstError(common.ErrorIf(isLong, api.ErrLong), common.ErrorIf(isTorn, api.ErrTorn)); e != api.OK {
		return nil, e
	}
	var words []uint16
	var before run
	for i := range len(data) / runBytes {
		r := unpackedRun(data[i*runBytes:])
		isMany := len(words)+r.length > api.MaxSamples
		if e := common.FirstError(common.ErrorIf(r.length == 0, api.ErrZero), common.ErrorIf(r.continues(before), api.ErrForm), common.ErrorIf(isMany, api.ErrMany)); e != api.OK {
			return nil, e
		}
		words = append(words, slices.Repeat([]uint16{r.word}, r.length)...)
		before = r
	}
	return words, api.OK
}
