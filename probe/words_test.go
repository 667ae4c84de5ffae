package probe_test

import (
	"math"
	"slices"
	"testing"

	"strobe/api"
	"strobe/probe"
)

// equalLines returns n lines of some samples that are all true.
func equalLines(n, samples int) [][]bool {
	return slices.Repeat([][]bool{slices.Repeat([]bool{true}, samples)}, n)
}

// countedWords returns the words 1, 2, .. n.
func countedWords(n int) []uint16 {
	words := make([]uint16, n)
	for i := range words {
		words[i] = uint16(i + 1)
	}
	return words
}

// P2.4: the examples of the chapter.
func TestExamplesOfWords(t *testing.T) {
	words, e := probe.Words([][]bool{yes("x_x"), yes("xx_")})
	sameList(t, "Words", words, e, []uint16{3, 2, 1}, api.OK)
	blocks, e := probe.Blocks(words)
	sameList(t, "Blocks", blocks, e, [][probe.BlockLen]uint16{{3, 2, 1}}, api.OK)
}

// P2.4: the words of lines, and the lines of words.
func TestWords(t *testing.T) {
	for _, row := range []struct {
		lines [][]bool
		words []uint16
		e     api.Errno
	}{
		{[][]bool{{}}, nil, api.OK}, {[][]bool{nil, {}}, nil, api.OK}, {[][]bool{yes("x_")}, []uint16{1, 0}, api.OK}, {[][]bool{yes("_"), yes("_"), yes("x")}, []uint16{4}, api.OK},
		{equalLines(16, 2), []uint16{65535, 65535}, api.OK}, {equalLines(15, 1), []uint16{32767}, api.OK}, {append(slices.Repeat([][]bool{yes("_")}, 15), yes("x")), []uint16{32768}, api.OK}, {equalLines(1, 4096), slices.Repeat([]uint16{1}, 4096), api.OK},
		{nil, nil, api.ErrEmpty}, {[][]bool{}, nil, api.ErrEmpty}, {equalLines(17, 1), nil, api.ErrMany}, {append(equalLines(16, 1), nil), nil, api.ErrMany}, {equalLines(1, 4097), nil, api.ErrMany}, {[][]bool{make([]bool, 4097), nil}, nil, api.ErrMany},
		// Another line than the first one cannot be too long, but has a wrong length.
		{[][]bool{nil, make([]bool, 4097)}, nil, api.ErrShape}, {[][]bool{yes("x"), yes("")}, nil, api.ErrShape}, {[][]bool{yes(""), yes("x")}, nil, api.ErrShape}, {[][]bool{yes("xx"), yes("xx"), yes("x")}, nil, api.ErrShape},
	} {
		words, e := probe.Words(row.lines)
		sameList(t, "Words", words, e, row.words, row.e)
	}
}

// P2.4: lines and words lead to each other by the definition, and leave their arguments as they are.
func TestWordsByDefinition(t *testing.T) {
	r := source(6)
	for range 100 {
		lines := make([][]bool, 1+r.Intn(16))
		n := r.Intn(40)
		wanted := make([]uint16, n)
		for i := range lines {
			lines[i] = make([]bool, n)
			for j := range lines[i] {
				if lines[i][j] = r.Intn(2) == 0; lines[i][j] {
					wanted[j] += uint16(math.Pow(2, float64(i)))
				}
			}
		}
		check := unchanged(t, "Words", lines[0])
		words, e := probe.Words(lines)
		sameList(t, "Words", words, e, wanted, api.OK)
		check()
		check = unchanged(t, "Line", words)
		for i := range 16 {
			line, e := probe.Line(words, i)
			if i < len(lines) {
				sameList(t, "Line", line, e, lines[i], api.OK)
			} else {
				sameList(t, "Line", line, e, make([]bool, n), api.OK)
			}
		}
		check()
	}
}

// P2.4: the errors of words and lines.
func TestLineErrors(t *testing.T) {
	line, e := probe.Line(nil, 15)
	sameList(t, "Line nil", line, e, nil, api.OK)
	line, e = probe.Line(slices.Repeat([]uint16{32768}, 4096), 15)
	sameList(t, "Line 4096", line, e, slices.Repeat([]bool{true}, 4096), api.OK)
	for _, n := range []int{math.MinInt, -1, 16, 64, math.MaxInt} {
		line, e = probe.Line([]uint16{1}, n)
		sameList(t, "Line", line, e, nil, api.ErrRange)
		line, e = probe.Line(nil, n)
		sameList(t, "Line", line, e, nil, api.ErrRange)
		line, e = probe.Line(make([]uint16, 4097), n)
		sameList(t, "Line", line, e, nil, api.ErrMany)
	}
	line, e = probe.Line(make([]uint16, 4097), 0)
	sameList(t, "Line 4097", line, e, nil, api.ErrMany)
}

// P2.4: one block.
func TestBlock(t *testing.T) {
	words := countedWords(16)
	block, e := probe.Block(words)
	same(t, "Block", block, e, [probe.BlockLen]uint16{1, 2, 3, 4, 5, 6, 7, 8, 9, 10, 11, 12, 13, 14, 15, 16}, api.OK)
	words[0] = 9
	if block[0] != 1 {
		t.Error("a block shares memory with its words")
	}
	for _, n := range []int{0, 1, 15, 17, 32, 4096} {
		block, e = probe.Block(countedWords(n))
		same(t, "Block", block, e, [probe.BlockLen]uint16{}, api.ErrShape)
	}
	block, e = probe.Block(countedWords(4097))
	same(t, "Block", block, e, [probe.BlockLen]uint16{}, api.ErrMany)
}

// P2.4: words in blocks, and back.
func TestBlocks(t *testing.T) {
	for _, n := range []int{0, 1, 2, 15, 16, 17, 31, 32, 33, 100, 4080, 4081, 4095, 4096} {
		words := countedWords(n)
		blocks, e := probe.Blocks(words)
		if e != api.OK || len(blocks)*16 < n || len(blocks)*16 >= n+16 {
			t.Fatalf("Blocks of %d words: %d blocks, %d", n, len(blocks), e)
		}
		for i := range 16 * len(blocks) {
			wanted := uint16(0)
			if i < n {
				wanted = words[i]
			}
			same(t, "Blocks", blocks[i/16][i%16], e, wanted, api.OK)
		}
		check := unchanged(t, "Unpack", blocks)
		again, e := probe.Unpack(blocks, n)
		sameList(t, "Unpack", again, e, words, api.OK)
		clear(again)
		check()
	}
	blocks, e := probe.Blocks(countedWords(4097))
	sameList(t, "Blocks 4097", blocks, e, nil, api.ErrMany)
}

// P2.4: the errors of blocks, in their order.
func TestUnpackErrors(t *testing.T) {
	full := [probe.BlockLen]uint16{15: 1}
	for _, row := range []struct {
		blocks [][probe.BlockLen]uint16
		n      int
		words  []uint16
		e      api.Errno
	}{
		{nil, 0, nil, api.OK}, {make([][probe.BlockLen]uint16, 256), 4096, make([]uint16, 4096), api.OK}, {make([][probe.BlockLen]uint16, 256), 4081, make([]uint16, 4081), api.OK}, {[][probe.BlockLen]uint16{{5, 6}}, 2, []uint16{5, 6}, api.OK}, {[][probe.BlockLen]uint16{{5, 6}}, 3, []uint16{5, 6, 0}, api.OK}, {[][probe.BlockLen]uint16{full}, 16, full[:], api.OK},
		{make([][probe.BlockLen]uint16, 257), 4096, nil, api.ErrMany}, {make([][probe.BlockLen]uint16, 257), -1, nil, api.ErrMany}, {nil, -1, nil, api.ErrRange}, {nil, 4097, nil, api.ErrRange}, {make([][probe.BlockLen]uint16, 256), 4097, nil, api.ErrRange}, {nil, math.MinInt, nil, api.ErrRange}, {nil, math.MaxInt, nil, api.ErrRange},
		{nil, 1, nil, api.ErrShape}, {make([][probe.BlockLen]uint16, 1), 0, nil, api.ErrShape}, {make([][probe.BlockLen]uint16, 1), 17, nil, api.ErrShape}, {make([][probe.BlockLen]uint16, 2), 16, nil, api.ErrShape}, {[][probe.BlockLen]uint16{full, full}, 15, nil, api.ErrShape}, {make([][probe.BlockLen]uint16, 256), 4080, nil, api.ErrShape},
		{[][probe.BlockLen]uint16{full}, 15, nil, api.ErrForm}, {[][probe.BlockLen]uint16{{5, 6}}, 1, nil, api.ErrForm}, {[][probe.BlockLen]uint16{full, {1, 2}}, 17, nil, api.ErrForm}, {[][probe.BlockLen]uint16{full, full}, 31, nil, api.ErrForm},
	} {
		words, e := probe.Unpack(row.blocks, row.n)
		sameList(t, "Unpack", words, e, row.words, row.e)
	}
}
