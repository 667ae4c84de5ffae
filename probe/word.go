package probe

import (
	"iter"
	"slices"

	"strobe/api"
	"strobe/common"
)

// Words returns the words of digital lines.
func Words(lines [][]bool) ([]uint16, api.Errno) {
	if e := checkLines(lines); e != api.OK {
		return nil, e
	}
	words := make([]uint16, len(lines[0]))
	for bit := range len(lines) {
		for i, value := range lines[bit] {
			if value {
				words[i] |= 1 << bit
			}
		}
	}
	return words, api.OK
}

// checkLines returns the first error of the lines of words.
func checkLines(lines [][]bool) api.Errno {
	if len(lines) == 0 {
		return api.ErrEmpty
	}
	if e := common.FirstError(common.AtMost(lines, api.MaxLines), common.AtMost(lines[0], api.MaxSamples)); e != api.OK {
		return e
	}
	for _, line := range lines {
		if len(line) != len(lines[0]) {
			return api.ErrShape
		}
	}
	return api.OK
}

// valuesOf returns the values of one line of words, in order.
func valuesOf(words []uint16, line int) iter.Seq[bool] {
	return func(yield func(bool) bool) {
		for _, word := range words {
			if !yield(word>>line&1 == 1) {
				return
			}
		}
	}
}

// Line returns a digital line of words.
func Line(words []uint16, line int) ([]bool, api.Errno) {
	if e := common.FirstError(common.AtMost(words, api.MaxSamples), common.InRange(line, 0, api.MaxLines-1)); e != api.OK {
		return nil, e
	}
	values := make([]bool, 0, len(words))
	for value := range valuesOf(words, line) {
		values = append(values, value)
	}
	return values, api.OK
}

// Block returns 16 words as an array.
func Block(words []uint16) ([BlockLen]uint16, api.Errno) {
	if e := common.AtMost(words, api.MaxSamples); e != api.OK {
		return [BlockLen]uint16{}, e
	}
	if len(words) != BlockLen {
		return [BlockLen]uint16{}, api.ErrShape
	}
	return [BlockLen]uint16(words), api.OK
}

// blocksFor returns the number of blocks that n words need.
func blocksFor(n int) int {
	return (n + BlockLen - 1) / BlockLen
}

// Blocks returns words in blocks, the last one filled up with 0.
func Blocks(words []uint16) ([][BlockLen]uint16, api.Errno) {
	if e := common.AtMost(words, api.MaxSamples); e != api.OK {
		return nil, e
	}
	blocks := make([][BlockLen]uint16, blocksFor(len(words)))
	for i := range blocks {
		copy(blocks[i][:], words[i*BlockLen:])
	}
	return blocks, api.OK
}

// Unpack returns the first n words of blocks.
func Unpack(blocks [][BlockLen]uint16, n int) ([]uint16, api.Errno) {
	if e := common.FirstError(common.AtMost(blocks, api.MaxSamples/BlockLen), common.InRange(n, 0, api.MaxSamples)); e != api.OK {
		return nil, e
	}
	if len(blocks) != blocksFor(n) {
		return nil, api.ErrShape
	}
	words := make([]uint16, 0, len(blocks)*BlockLen)
	for _, block := range blocks {
		words = append(words, block[:]...)
	}
	if slices.ContainsFunc(words[n:], func(word uint16) bool { return word != 0 }) {
		return nil, api.ErrForm
	}
	return words[:n:n], api.OK
}
