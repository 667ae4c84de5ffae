package acquire

import (
	"slices"
	"sort"

	"strobe/api"
	"strobe/common"
	"strobe/number"
	"strobe/rational"
)

// blocksFor returns the number of blocks that n samples need.
func blocksFor(n int) int {
	return (n + BlockSize - 1) / BlockSize
}

// Blocks returns the blocks of a record.
func Blocks(samples []float32) ([][BlockSize]float32, api.Errno) {
	if e := number.CheckSamples(samples); e != api.OK {
		return nil, e
	}
	blocks := make([][BlockSize]float32, blocksFor(len(samples)))
	filled := make([]float32, len(blocks)*BlockSize)
	copy(filled, common.Transformed(samples, common.PositiveZero))
	for i := range blocks {
		blocks[i] = [BlockSize]float32(filled[i*BlockSize:])
	}
	return blocks, api.OK
}

// Join returns the record with certain blocks.
func Join(blocks [][BlockSize]float32, n int) ([]float32, api.Errno) {
	if e := common.AtMost(blocks, api.MaxSamples/BlockSize); e != api.OK {
		return nil, e
	}
	var samples []float32
	for _, block := range blocks {
		if !isFinite(block) {
			return nil, api.ErrForm
		}
		samples = append(samples, block[:]...)
	}
	if n < 0 || n > len(samples) || blocksFor(n) != len(blocks) {
		return nil, api.ErrShape
	}
	return common.Transformed(samples[:n], common.PositiveZero), api.OK
}

// isFinite reports whether no sample of a block is a NaN or an infinity: only a finite sample less itself is 0.
func isFinite(block [BlockSize]float32) bool {
	for i := range block {
		block[i] -= block[i]
	}
	return block == [BlockSize]float32{}
}

// Flags returns at which samples a level is crossed.
func Flags(samples []float32, level, hysteresis api.Rat, rising bool) ([]bool, api.Errno) {
	to, errLevel := rational.Read(level)
	gap, errHysteresis := rational.ReadSigned(hysteresis, 0)
	if e := common.FirstError(number.CheckSamples(samples), errLevel, errHysteresis); e != api.OK {
		return nil, e
	}
	if rising {
		return crossed(samples, atLeast(to, samples), atMost(to.Minus(gap), samples)), api.OK
	}
	return crossed(samples, atMost(to, samples), atLeast(to.Plus(gap), samples)), api.OK
}

// crossed reports for each sample whether it is beyond a level, with an earlier sample that is back far enough,
// and none that is beyond the level since the latest one of these.
func crossed(samples []float32, isBeyond, isBack func(float32) bool) []bool {
	isReady := false
	return common.Transformed(samples, func(sample float32) bool {
		beyond := isBeyond(sample)
		crosses := isReady && beyond
		// Without a hysteresis one sample may be both: it is the latest one that is back.
		isReady = isBack(sample) || isReady && !beyond
		return crosses
	})
}

// atLeast returns a function that reports whether one of some samples is at least a number.
func atLeast(a rational.Number, samples []float32) func(float32) bool {
	return reaching(a, 0, samples)
}

// atMost returns a function that reports whether one of some samples is at most a number.
func atMost(a rational.Number, samples []float32) func(float32) bool {
	isAbove := reaching(a, 1, samples)
	return func(sample float32) bool { return !isAbove(sample) }
}

// reaching returns a function that reports whether one of some samples less a number has at least some sign.
func reaching(a rational.Number, sign int, samples []float32) func(float32) bool {
	// A number may have hundreds of digits: sorted samples need only few comparisons with it.
	sorted := slices.Sorted(slices.Values(samples))
	first := sort.Search(len(sorted), func(i int) bool { return rational.Exact(sorted[i]).Compare(a) >= sign })
	return func(sample float32) bool { return first < len(sorted) && sample >= sorted[first] }
}
