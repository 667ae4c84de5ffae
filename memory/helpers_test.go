package memory_test

import (
	"math"
	"math/big"
	"math/rand"
	"slices"
	"strings"
	"testing"

	"strobe/api"
	"strobe/memory"
)

// exampleSamples returns the samples S of the chapter's examples.
func exampleSamples() []float32 { return []float32{3, 1, 4, 1, 5, 9, 2} }

// exampleLevels returns the levels of the pyramid of S with the block size 2.
func exampleLevels() [][]memory.Pair {
	return [][]memory.Pair{{{1, 3}, {1, 4}, {5, 9}, {2, 2}}, {{1, 4}, {2, 9}}, {{1, 9}}}
}

// exampleTree returns the pyramid of S with the block size 2.
func exampleTree() memory.Tree { return memory.Tree{Block: 2, Levels: exampleLevels()} }

// nines returns a number of n digits 9.
func nines(n int) api.Rat { return api.Rat(strings.Repeat("9", n)) }

// source returns a sequence of random numbers that is the same on each run.
func source(seed int64) *rand.Rand { return rand.New(rand.NewSource(seed)) }

// valid returns a valid number as a value of math/big.
func valid(a api.Rat) *big.Rat {
	x, ok := new(big.Rat).SetString(string(a))
	if !ok {
		panic("no number: " + string(a))
	}
	return x
}

// exact returns the exact value of a sample.
func exact(f float32) *big.Rat { return new(big.Rat).SetFloat64(float64(f)) }

// negativeZero returns -0.
func negativeZero() float32 { return float32(math.Copysign(0, -1)) }

// notFinite returns NaNs and infinities.
func notFinite() []float32 {
	return []float32{float32(math.NaN()), float32(math.Inf(1)), float32(math.Inf(-1)), math.Float32frombits(0xffc00001)}
}

// below and above return the next float.
func below(f float32) float32 { return math.Nextafter32(f, float32(math.Inf(-1))) }
func above(f float32) float32 { return math.Nextafter32(f, float32(math.Inf(1))) }

// far returns integers that are in no range.
func far() []int {
	return []int{math.MinInt, math.MinInt + 1, -4097, -1, 4097, 1000000000, math.MaxInt}
}

// bad is an argument with an error.
type bad[T any] struct {
	argument T
	e        api.Errno
}

// badNumbers returns strings that are no numbers.
func badNumbers() []bad[api.Rat] {
	var l []bad[api.Rat]
	for _, a := range []api.Rat{"", "-", "x", "-0", "01", "1/0", "1/1", "2/4", "0/5", "+1", " 1", "1.5", "1/-2", "1/2/3", "\xff", "1\x00", nines(600) + "/" + nines(600)} {
		l = append(l, bad[api.Rat]{a, api.ErrForm})
	}
	for _, a := range []api.Rat{nines(601), "-" + nines(601), "1/" + nines(601)} {
		l = append(l, bad[api.Rat]{a, api.ErrLarge})
	}
	return l
}

// badSamples returns samples with an error.
func badSamples() []bad[[]float32] {
	l := []bad[[]float32]{{make([]float32, 4097), api.ErrMany}, {append(notFinite(), make([]float32, 4096)...), api.ErrMany}}
	for _, f := range notFinite() {
		l = append(l, bad[[]float32]{[]float32{f}, api.ErrForm}, bad[[]float32]{[]float32{0, 9, 0, 9, f}, api.ErrForm})
	}
	return l
}

// badBlocks returns block sizes with an error.
func badBlocks() []int { return append(far(), 0, 257) }

// changed returns the pyramid of S with one other number.
func changed(level, index int, change func(*memory.Pair)) memory.Tree {
	t := exampleTree()
	change(&t.Levels[level][index])
	return t
}

// badTrees returns trees that have an error for S.
func badTrees() []bad[memory.Tree] {
	l := []bad[memory.Tree]{{memory.Tree{}, api.ErrRange}}
	for _, block := range badBlocks() {
		l = append(l, bad[memory.Tree]{memory.Tree{Block: block, Levels: exampleLevels()}, api.ErrRange})
	}
	return append(append(l, uneven()...), wrongPairs()...)
}

// uneven returns trees that do not have the form of the pyramid of S.
func uneven() []bad[memory.Tree] {
	x := exampleLevels()
	nan := memory.Pair{Low: notFinite()[0]}
	var l []bad[memory.Tree]
	for _, levels := range [][][]memory.Pair{
		nil, {}, {nil}, {nil, nil, nil}, x[:1], x[:2], x[1:], append(exampleLevels(), []memory.Pair{{1, 9}}), append(exampleLevels(), nil),
		{x[0], x[1], nil}, {x[0], nil, x[2]}, {x[0], x[1], {{1, 9}, {1, 9}}}, {x[0][:3], x[1], x[2]}, {append(x[0], x[0]...), x[1], x[2]}, {x[2], x[1], x[0]},
		{{nan, nan, nan, nan, nan}, x[1], x[2]}, {{nan, nan, nan, nan}, {nan, nan}}, make([][]memory.Pair, 5000), {make([]memory.Pair, 5000), x[1], x[2]},
	} {
		l = append(l, bad[memory.Tree]{memory.Tree{Block: 2, Levels: levels}, api.ErrShape})
	}
	for _, block := range []int{1, 3, 4, 7, 256} {
		l = append(l, bad[memory.Tree]{memory.Tree{Block: block, Levels: exampleLevels()}, api.ErrShape})
	}
	return l
}

// wrongPairs returns trees with the form of the pyramid of S and numbers that are not finite, or wrong.
func wrongPairs() []bad[memory.Tree] {
	var l []bad[memory.Tree]
	for level, pairs := range exampleLevels() {
		for i, pair := range pairs {
			for _, f := range notFinite() {
				l = append(l, bad[memory.Tree]{changed(level, i, func(p *memory.Pair) { p.Low = f }), api.ErrForm}, bad[memory.Tree]{changed(level, i, func(p *memory.Pair) { p.High = f }), api.ErrForm})
				// A wrong pair before it and after it decide nothing.
				t := changed(level, i, func(p *memory.Pair) { p.High = f })
				t.Levels[0][(i+1)%4], t.Levels[2][0].Low = memory.Pair{Low: 7, High: 7}, 2
				l = append(l, bad[memory.Tree]{t, api.ErrForm})
			}
			for _, wrong := range []memory.Pair{{above(pair.Low), pair.High}, {pair.Low, below(pair.High)}, {below(pair.Low), pair.High}, {pair.Low, above(pair.High)}, {0, 0}} {
				l = append(l, bad[memory.Tree]{changed(level, i, func(p *memory.Pair) { *p = wrong }), api.ErrProof})
			}
		}
	}
	swapped := changed(0, 0, func(p *memory.Pair) { p.Low, p.High = 3, 1 })
	return append(l, bad[memory.Tree]{swapped, api.ErrProof}, bad[memory.Tree]{memory.Tree{Block: 2, Levels: [][]memory.Pair{make([]memory.Pair, 4), make([]memory.Pair, 2), make([]memory.Pair, 1)}}, api.ErrProof})
}

// badRanges returns ranges of 7 samples with an error.
func badRanges() []bad[[2]int] {
	var l []bad[[2]int]
	for _, n := range append(far(), 8) {
		for _, k := range []int{0, 1, 7, n} {
			l = append(l, bad[[2]int]{[2]int{n, k}, api.ErrRange}, bad[[2]int]{[2]int{k, n}, api.ErrRange})
		}
	}
	for _, ends := range [][2]int{{1, 0}, {7, 6}, {7, 0}, {4, 3}} {
		l = append(l, bad[[2]int]{ends, api.ErrOrder})
	}
	return l
}

// anyFloat returns a float of any size that is finite.
func anyFloat(r *rand.Rand) float32 {
	for {
		f := math.Float32frombits(r.Uint32())
		if d := f - f; d == 0 {
			return f
		}
	}
}

// anySamples returns n samples: floats of any size, fractions, small integers and halves, or slow changes.
func anySamples(r *rand.Rand, n int) []float32 {
	kind := r.Intn(6)
	samples := make([]float32, n)
	for i := range samples {
		switch kind {
		case 0:
			samples[i] = anyFloat(r)
		case 1:
			samples[i] = float32(r.NormFloat64())
		case 2:
			samples[i] = float32(math.Round(6*math.Sin(float64(i)/20)) / 2)
		default:
			samples[i] = float32(r.Intn(13)-6) / 2
		}
		if r.Intn(9) == 0 {
			samples[i] = negativeZero()
		}
	}
	return samples
}

// anyBlock returns a block size, often a small one.
func anyBlock(r *rand.Rand) int {
	if r.Intn(2) == 0 {
		return 1 + r.Intn(6)
	}
	return 1 + r.Intn(256)
}

// anyLevel returns a level that is near to one of some samples, or one of them.
func anyLevel(r *rand.Rand, samples []float32) float32 {
	if len(samples) == 0 || r.Intn(20) == 0 {
		return anyFloat(r)
	}
	level := samples[r.Intn(len(samples))]
	around := []float32{below(level), level, level, above(level)}[r.Intn(4)]
	if around-around != 0 {
		return level
	}
	return around
}

// anyRange returns a range of n samples.
func anyRange(r *rand.Rand, n int) (int, int) {
	a, b := r.Intn(n+1), r.Intn(n+1)
	return min(a, b), max(a, b)
}

// treeOf returns the pyramid of valid samples, where half of the zeros are -0 if that is wanted.
func treeOf(t *testing.T, samples []float32, block int, negative bool) memory.Tree {
	t.Helper()
	tree, e := memory.Build(samples, block)
	if e != api.OK {
		t.Fatalf("Build: got the error %d", e)
	}
	for _, level := range tree.Levels {
		for i, pair := range level {
			if negative && pair.Low == 0 {
				level[i].Low = negativeZero()
			}
			if negative && pair.High == 0 && i%2 == 0 {
				level[i].High = negativeZero()
			}
		}
	}
	return tree
}

// same reports a result or an error that differs from the expected one.
func same[T comparable](t *testing.T, what string, got T, gotError api.Errno, wanted T, wantedError api.Errno) {
	t.Helper()
	if got != wanted || gotError != wantedError {
		t.Errorf("%s: got %v, %d, want %v, %d", what, got, gotError, wanted, wantedError)
	}
}

// sameList reports a list or an error that differs from the expected one; nil and empty lists are equal.
func sameList[T comparable](t *testing.T, what string, got []T, gotError api.Errno, wanted []T, wantedError api.Errno) {
	t.Helper()
	if !slices.Equal(got, wanted) || gotError != wantedError {
		t.Errorf("%s: got %v, %d, want %v, %d", what, got, gotError, wanted, wantedError)
	}
}

// sameFloats is sameList for samples, and tells -0 from 0, as no result is -0.
func sameFloats(t *testing.T, what string, got []float32, gotError api.Errno, wanted []float32, wantedError api.Errno) {
	t.Helper()
	sameList(t, what, got, gotError, wanted, wantedError)
	for _, f := range got {
		if f == 0 && math.Signbit(float64(f)) {
			t.Errorf("%s: got -0", what)
		}
	}
}

// samePairs is sameFloats for pairs.
func samePairs(t *testing.T, what string, got []memory.Pair, gotError api.Errno, wanted []memory.Pair, wantedError api.Errno) {
	t.Helper()
	sameFloats(t, what, floatsOf(got), gotError, floatsOf(wanted), wantedError)
}

// floatsOf returns the numbers of pairs.
func floatsOf(pairs []memory.Pair) []float32 {
	var floats []float32
	for _, pair := range pairs {
		floats = append(floats, pair.Low, pair.High)
	}
	return floats
}

// sameTree reports a tree or an error that differs from the expected one.
func sameTree(t *testing.T, what string, got memory.Tree, gotError api.Errno, wanted memory.Tree, wantedError api.Errno) {
	t.Helper()
	same(t, what+": the block size", got.Block, gotError, wanted.Block, wantedError)
	if same(t, what+": the number of levels", len(got.Levels), gotError, len(wanted.Levels), wantedError); t.Failed() {
		return
	}
	for i, level := range wanted.Levels {
		samePairs(t, what+": a level", got.Levels[i], gotError, level, wantedError)
	}
}

// isError reports an error that differs from the expected one.
func isError(t *testing.T, what string, got, wanted api.Errno) {
	t.Helper()
	if got != wanted {
		t.Errorf("%s: got the error %d, want %d", what, got, wanted)
	}
}

// decided reports outcomes that random arguments have had too seldom.
func decided[T comparable](t *testing.T, what string, found map[T]int, wanted ...T) {
	t.Helper()
	for _, outcome := range wanted {
		if found[outcome] < 20 {
			t.Errorf("%s: the arguments decide too little: %v", what, found)
		}
	}
}

// unchanged reports a list that a function has changed.
func unchanged[T comparable](t *testing.T, l []T, call func([]T)) {
	t.Helper()
	before := slices.Clone(l)
	call(l)
	if !slices.Equal(l, before) {
		t.Errorf("the list %v has become %v", before, l)
	}
}
