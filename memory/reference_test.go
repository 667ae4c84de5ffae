package memory_test

import (
	"bytes"
	"math/big"
	"slices"

	"strobe/api"
	"strobe/memory"
)

// The references follow the definitions and read all samples; they take valid arguments.

// referencePair returns the pair of a range that is not empty.
func referencePair(samples []float32, from, to int) memory.Pair {
	pair := memory.Pair{Low: samples[from], High: samples[from]}
	for _, f := range samples[from:to] {
		if f < pair.Low {
			pair.Low = f
		}
		if f > pair.High {
			pair.High = f
		}
	}
	return pair
}

// referenceNodes returns the nodes of each level of the pyramid of n samples, and the range of each node.
func referenceNodes(block, n int) [][][2]int {
	var levels [][][2]int
	for size := block; n > 0; size *= 2 {
		var ranges [][2]int
		for from := 0; from < n; from += size {
			ranges = append(ranges, [2]int{from, min(from+size, n)})
		}
		levels = append(levels, ranges)
		if len(ranges) == 1 {
			break
		}
	}
	return levels
}

// referenceTree returns the pyramid of samples.
func referenceTree(samples []float32, block int) memory.Tree {
	t := memory.Tree{Block: block}
	for _, ranges := range referenceNodes(block, len(samples)) {
		var level []memory.Pair
		for _, ends := range ranges {
			level = append(level, referencePair(samples, ends[0], ends[1]))
		}
		t.Levels = append(t.Levels, level)
	}
	return t
}

// referenceCover returns the cover of a range: at each position it looks at all nodes.
func referenceCover(block, n, from, to int) []memory.Node {
	levels := referenceNodes(block, n)
	var cover []memory.Node
	for from < to {
		node, end := memory.Node{Level: -1, Index: from}, from+1
		for level, ranges := range levels {
			for i, ends := range ranges {
				if ends[0] == from && ends[1] <= to {
					node, end = memory.Node{Level: level, Index: i}, ends[1]
				}
			}
		}
		cover = append(cover, node)
		from = end
	}
	return cover
}

// referenceColumns returns the ranges of the columns of a range.
func referenceColumns(from, to, columns int) [][2]int {
	part := func(j int) int {
		x := big.NewInt(int64(j))
		x.Mul(x, big.NewInt(int64(to-from))).Div(x, big.NewInt(int64(columns)))
		return from + int(x.Int64())
	}
	var ranges [][2]int
	for j := range columns {
		ranges = append(ranges, [2]int{part(j), part(j + 1)})
	}
	return ranges
}

// referenceZoom returns the pairs of columns.
func referenceZoom(samples []float32, from, to, columns int) []memory.Pair {
	var pairs []memory.Pair
	for _, ends := range referenceColumns(from, to, columns) {
		pairs = append(pairs, referencePair(samples, ends[0], ends[1]))
	}
	return pairs
}

// referenceDecimated returns the least and the greatest sample of columns in the order of their first indices.
func referenceDecimated(samples []float32, parts int) []float32 {
	var decimated []float32
	for _, ends := range referenceColumns(0, len(samples), parts) {
		pair := referencePair(samples, ends[0], ends[1])
		low := referenceFirst(samples, ends[0], func(i int) bool { return samples[i] == pair.Low })
		high := referenceFirst(samples, ends[0], func(i int) bool { return samples[i] == pair.High })
		if low < high {
			decimated = append(decimated, pair.Low, pair.High)
		} else {
			decimated = append(decimated, pair.High, pair.Low)
		}
	}
	return decimated
}

// referenceFirst returns the first index of samples from another one on at which a condition holds, or -1.
func referenceFirst(samples []float32, from int, holds func(int) bool) int {
	for i := range samples {
		if i >= from && holds(i) {
			return i
		}
	}
	return -1
}

// foundAt returns the results of a search that found an index, or none if it is -1.
func foundAt(i int) (int, api.Errno) {
	if i < 0 {
		return 0, api.ErrNone
	}
	return i, api.OK
}

// referenceNext returns the result of Next.
func referenceNext(samples []float32, from int, level float32) (int, api.Errno) {
	return foundAt(referenceFirst(samples, from, func(i int) bool { return samples[i] >= level }))
}

// referenceEdge returns the result of Edge.
func referenceEdge(samples []float32, from int, level float32) (int, api.Errno) {
	return foundAt(referenceFirst(samples, from, func(i int) bool { return i > 0 && samples[i-1] < level && samples[i] >= level }))
}

// referencePeak returns the result of Peak.
func referencePeak(samples []float32) (int, api.Errno) {
	if len(samples) == 0 {
		return 0, api.ErrEmpty
	}
	isBelow := func(i int) bool { return !slices.ContainsFunc(samples, func(f float32) bool { return f > samples[i] }) }
	return foundAt(referenceFirst(samples, 0, isBelow))
}

// referenceLongest returns the result of Longest: it looks at all ranges.
func referenceLongest(samples []float32, level float32) ([2]int, api.Errno) {
	for length := len(samples); length > 0; length-- {
		for from := 0; from+length <= len(samples); from++ {
			if slices.Min(samples[from:from+length]) >= level {
				return [2]int{from, from + length}, api.OK
			}
		}
	}
	return [2]int{}, api.ErrNone
}

// referenceCount returns the result of Count.
func referenceCount(samples []float32, from, to int, level float32) int {
	n := 0
	for i, f := range samples {
		if i >= from && i < to && f >= level {
			n++
		}
	}
	return n
}

// referenceFind returns the result of Find.
func referenceFind(samples, pattern []float32, from int, tolerance *big.Rat) (int, api.Errno) {
	fits := func(i int) bool {
		if i+len(pattern) > len(samples) {
			return false
		}
		for k, f := range pattern {
			difference := new(big.Rat).Sub(exact(samples[i+k]), exact(f))
			if difference.Abs(difference).Cmp(tolerance) > 0 {
				return false
			}
		}
		return true
	}
	return foundAt(referenceFirst(samples, from, fits))
}

// referenceHistogram returns the result of Histogram: it reads all samples for each bin.
func referenceHistogram(samples, limits []float32) []int {
	var counts []int
	for bin := range len(limits) + 1 {
		n := 0
		for _, f := range samples {
			isFrom := bin == 0 || f >= limits[bin-1]
			isTo := bin == len(limits) || f < limits[bin]
			if isFrom && isTo {
				n++
			}
		}
		counts = append(counts, n)
	}
	return counts
}

// referenceBytes returns the bytes of a difference of codes.
func referenceBytes(d int) []byte {
	z := 2 * d
	if d < 0 {
		z = -2*d - 1
	}
	if z < 128 {
		return []byte{byte(z)}
	}
	return []byte{byte(z%128 + 128), byte(z / 128)}
}

// referencePack returns the result of Pack.
func referencePack(codes []int) []byte {
	var data []byte
	before := 0
	for _, code := range codes {
		data = append(data, referenceBytes(code-before)...)
		before = code
	}
	return data
}

// referenceUnpack returns the result of Unpack for at most 2 MaxSamples bytes: it tries all codes after the last one.
func referenceUnpack(data []byte) ([]int, api.Errno) {
	var codes []int
	before := 0
	for len(data) > 0 {
		size := 1
		if data[0] >= 128 {
			size = 2
		}
		switch {
		case size > len(data):
			return nil, api.ErrTorn
		case size == 2 && (data[1] == 0 || data[1] >= 128):
			return nil, api.ErrForm
		}
		code := 0
		for code <= 4095 && !bytes.Equal(referenceBytes(code-before), data[:size]) {
			code++
		}
		switch {
		case code > 4095:
			return nil, api.ErrRange
		case len(codes) == 4096:
			return nil, api.ErrMany
		}
		codes, before, data = append(codes, code), code, data[size:]
	}
	return codes, api.OK
}

// referencePackWords returns the result of PackWords.
func referencePackWords(words []uint16) []byte {
	var data []byte
	for i, word := range words {
		isFurther := i > 0 && words[i-1] == word && data[len(data)-3] < 255
		if isFurther {
			data[len(data)-3]++
			continue
		}
		data = append(data, 1, byte(word&255), byte(word>>8))
	}
	return data
}
