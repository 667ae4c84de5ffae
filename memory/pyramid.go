package memory

import (
	"iter"
	"slices"

	"strobe/api"
	"strobe/common"
)

// pyramid is a record with the pairs of the nodes of its tree.
type pyramid struct {
	layout
	samples []float32
	pairs   map[Node]Pair
}

// pyramidOf returns the pyramid of samples and their tree.
func pyramidOf(samples []float32, t Tree) pyramid {
	pairs := map[Node]Pair{}
	for level, list := range t.Levels {
		for i, pair := range list {
			pairs[Node{level, i}] = pair
		}
	}
	return pyramid{layout{t.Block, len(samples)}, samples, pairs}
}

// readPyramid returns the pyramid of samples with a given tree, or the error of CheckTree.
func readPyramid(samples []float32, given Tree) (pyramid, api.Errno) {
	t, e := Build(samples, given.Block)
	if e := common.FirstError(e, given.mismatch(t)); e != api.OK {
		return pyramid{}, e
	}
	// The given tree may have -0 where the one that was built has 0.
	return pyramidOf(samples, t), api.OK
}

// pair returns the pair of a node.
func (p pyramid) pair(n Node) Pair {
	if n.Level == sampleLevel {
		return pairOf(p.samples[n.Index])
	}
	return p.pairs[n]
}

// extremes returns the pair of a range that is not empty.
func (p pyramid) extremes(from, to int) Pair {
	nodes := slices.Collect(p.cover(from, to))
	return common.Folded(Pair.with, common.Transformed(nodes, p.pair))
}

// count returns how many samples of some nodes are at least a level.
func (p pyramid) count(nodes iter.Seq[Node], level float32) int {
	sum := 0
	for node := range nodes {
		switch pair := p.pair(node); {
		case pair.Low >= level:
			sum += p.end(node) - p.begin(node)
		case pair.High >= level:
			sum += p.count(p.parts(node), level)
		}
	}
	return sum
}

// first returns the first index from another one on at which a condition holds, or ErrNone. The condition holds for the pair
// of a node exactly if it holds for the pair of one of its samples.
func (p pyramid) first(from int, holds func(Pair) bool) (int, api.Errno) {
	nodes := p.cover(from, p.length)
search:
	for {
		for node := range nodes {
			if !holds(p.pair(node)) {
				continue
			}
			if node.Level == sampleLevel {
				return node.Index, api.OK
			}
			nodes = p.parts(node)
			continue search
		}
		return 0, api.ErrNone
	}
}
