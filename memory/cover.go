package memory

import (
	"iter"
	"slices"

	"strobe/api"
	"strobe/common"
)

// sampleLevel is the level of nodes that are samples.
const sampleLevel = -1

// layout is the form of a pyramid: its block size, and the number of its samples.
type layout struct {
	block, length int
}

// levels returns the number of levels.
func (l layout) levels() int {
	if l.length == 0 {
		return 0
	}
	last := 0
	for l.size(last) < l.length {
		last++
	}
	return last + 1
}

// size returns how many samples a node of a level covers, unless the samples end within it.
func (l layout) size(level int) int {
	if level == sampleLevel {
		return 1
	}
	return l.block << level
}

// begin returns the index of the first sample of a node.
func (l layout) begin(n Node) int {
	return n.Index * l.size(n.Level)
}

// end returns the index after the last sample of a node.
func (l layout) end(n Node) int {
	return min(l.begin(n)+l.size(n.Level), l.length)
}

// greatest returns the node of the greatest level that begins at an index, and ends at a limit or before it.
func (l layout) greatest(from, to int) Node {
	for level := l.levels() - 1; level > sampleLevel; level-- {
		node := Node{level, from / l.size(level)}
		if l.begin(node) == from && l.end(node) <= to {
			return node
		}
	}
	return Node{sampleLevel, from}
}

// cover visits the nodes of the cover of a range, from left to right.
func (l layout) cover(from, to int) iter.Seq[Node] {
	return func(yield func(Node) bool) {
		for from < to {
			node := l.greatest(from, to)
			if !yield(node) {
				return
			}
			from = l.end(node)
		}
	}
}

// parts visits the nodes of the level below a node that is not a sample, from left to right: those that it covers.
func (l layout) parts(n Node) iter.Seq[Node] {
	level := n.Level - 1
	return func(yield func(Node) bool) {
		for i := l.begin(n) / l.size(level); i*l.size(level) < l.end(n); i++ {
			if !yield(Node{level, i}) {
				return
			}
		}
	}
}

// Cover returns the nodes of a pyramid of n samples that cover a range.
func Cover(block, n, from, to int) ([]Node, api.Errno) {
	if e := common.FirstError(checkBlock(block), common.InRange(n, 0, api.MaxSamples), checkRange(from, to, n)); e != api.OK {
		return nil, e
	}
	return slices.Collect(layout{block, n}.cover(from, to)), api.OK
}
