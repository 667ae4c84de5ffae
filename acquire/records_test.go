package acquire_test

import (
	"math"
	"math/big"
	"testing"

	"strobe/acquire"
	"strobe/api"
)

// block is a block of samples.
type block = [acquire.BlockSize]float32

// P3.5: the blocks of records of all lengths around the end of a block, and of the longest ones.
func TestBlocks(t *testing.T) {
	for _, n := range []int{0, 1, 15, 16, 17, 31, 32, 33, 100, 4080, 4081, 4095, 4096} {
		samples := counted(1, n)
		blocks, e := acquire.Blocks(samples)
		wanted := make([]block, int(math.Ceil(float64(n)/16)))
		for i, sample := range samples {
			wanted[i/16][i%16] = sample
		}
		sameList(t, "Blocks", blocks, e, wanted, api.OK)
	}
	blocks, e := acquire.Blocks([]float32{3, 1, 4})
	sameList(t, "Blocks", blocks, e, []block{{3, 1, 4}}, api.OK)
}

// P3.5: the errors of records.
func TestBlocksErrors(t *testing.T) {
	for _, f := range notFinite() {
		blocks, e := acquire.Blocks([]float32{1, 2, f})
		sameList(t, "Blocks", blocks, e, nil, api.ErrForm)
	}
	blocks, e := acquire.Blocks(append(notFinite(), make([]float32, 4096)...))
	sameList(t, "Blocks", blocks, e, nil, api.ErrMany)
}

// P3.5: the first samples of blocks, whatever comes after them.
func TestJoin(t *testing.T) {
	for _, n := range []int{0, 1, 15, 16, 17, 31, 32, 33, 100, 4080, 4081, 4095, 4096} {
		blocks := make([]block, int(math.Ceil(float64(n)/16)))
		for i := range 16 * len(blocks) {
			blocks[i/16][i%16] = float32(i + 1)
		}
		samples, e := acquire.Join(blocks, n)
		sameRecord(t, "Join", samples, e, counted(1, n), api.OK)
	}
}

// P3.5: the errors of blocks and of their number of samples, in their order.
func TestJoinErrors(t *testing.T) {
	for k, lengths := range [][]int{{math.MinInt, -1, 1, 16, math.MaxInt}, {math.MinInt, -1, 0, 17, 32, math.MaxInt}, {math.MinInt, -1, 0, 1, 15, 16, 33, 4096, math.MaxInt, math.MaxInt - 15}} {
		for _, n := range lengths {
			samples, e := acquire.Join(make([]block, k), n)
			sameRecord(t, "Join", samples, e, nil, api.ErrShape)
		}
	}
	for _, n := range []int{-1, 0, 4080, 4096, 4097, 4112} {
		samples, e := acquire.Join(make([]block, 257), n)
		sameRecord(t, "Join", samples, e, nil, api.ErrMany)
		samples, e = acquire.Join(append([]block{{notFinite()[0]}}, make([]block, 256)...), n)
		sameRecord(t, "Join", samples, e, nil, api.ErrMany)
	}
	for _, f := range notFinite() {
		// A sample after the last one is a sample of a block, too.
		for _, n := range []int{-1, 0, 17, 18, 32, 33} {
			samples, e := acquire.Join([]block{{1, 2}, {15: f}}, n)
			sameRecord(t, "Join", samples, e, nil, api.ErrForm)
			samples, e = acquire.Join([]block{{f, 2}, {3}}, n)
			sameRecord(t, "Join", samples, e, nil, api.ErrForm)
		}
	}
}

// P3.5: records and blocks have no -0, and share no memory.
func TestRecordsShareNothing(t *testing.T) {
	samples := []float32{negativeZero(), 1, negativeZero()}
	blocks, e := acquire.Blocks(samples)
	sameRecord(t, "Blocks", blocks[0][:], e, []float32{0, 1, 0, 15: 0}, api.OK)
	samples[1] = 7
	sameRecord(t, "Blocks", blocks[0][:], e, []float32{0, 1, 0, 15: 0}, api.OK)
	blocks[0][2] = negativeZero()
	joined, e := acquire.Join(blocks, 3)
	sameRecord(t, "Join", joined, e, []float32{0, 1, 0}, api.OK)
	joined[1] = 8
	_ = append(joined, 9)
	sameRecord(t, "the blocks", blocks[0][:], e, []float32{0, 1, negativeZero(), 15: 0}, api.OK)
	blocks[0] = block{math.MaxFloat32, -math.MaxFloat32, math.SmallestNonzeroFloat32}
	joined, e = acquire.Join(blocks, 1)
	sameRecord(t, "Join", joined, e, []float32{math.MaxFloat32}, api.OK)
}

// P3.5: the example 6 of the chapter, and the same crossings downwards.
func TestExampleOfFlags(t *testing.T) {
	rising, falling := []float32{0, 2, 3, 1, 2}, []float32{0, -2, -3, -1, -2}
	for _, row := range []struct {
		hysteresis api.Rat
		wanted     []bool
	}{{"1", flagsAt(5, 1, 4)}, {"2", flagsAt(5, 1)}, {"3", flagsAt(5)}, {"0", flagsAt(5, 1, 2, 4)}} {
		flags, e := acquire.Flags(rising, "2", row.hysteresis, true)
		sameList(t, "Flags", flags, e, row.wanted, api.OK)
		flags, e = acquire.Flags(falling, "-2", row.hysteresis, false)
		sameList(t, "Flags", flags, e, row.wanted, api.OK)
	}
}

// P3.5: without a hysteresis a sample at the level is on both sides of it.
func TestFlagsAtLevel(t *testing.T) {
	for _, isRising := range []bool{true, false} {
		flags, e := acquire.Flags([]float32{2, 2, 2}, "2", "0", isRising)
		sameList(t, "Flags", flags, e, flagsAt(3, 1, 2), api.OK)
		flags, e = acquire.Flags([]float32{0, negativeZero(), 0}, "0", "0", isRising)
		sameList(t, "Flags", flags, e, flagsAt(3, 1, 2), api.OK)
		flags, e = acquire.Flags(nil, "0", "0", isRising)
		sameList(t, "Flags", flags, e, nil, api.OK)
	}
	flags, e := acquire.Flags([]float32{2, 3, 2, 3, 1, 3}, "2", "0", true)
	sameList(t, "Flags", flags, e, flagsAt(6, 1, 3, 5), api.OK)
	flags, e = acquire.Flags([]float32{2, 3, 2, 3, 1, 3}, "2", "0", false)
	sameList(t, "Flags", flags, e, flagsAt(6, 2, 4), api.OK)
}

// referenceFlags returns the flags by the definition, which looks back from each sample.
func referenceFlags(samples []float32, level, hysteresis *big.Rat, isRising bool) []bool {
	side := func(f float32) *big.Rat { return exact(f) }
	if !isRising {
		side = func(f float32) *big.Rat { x := exact(f); return x.Neg(x) }
		level = new(big.Rat).Neg(level)
	}
	low := new(big.Rat).Sub(level, hysteresis)
	flags := make([]bool, len(samples))
	for i, f := range samples {
		if side(f).Cmp(level) < 0 {
			continue
		}
		for k := i - 1; k >= 0; k-- {
			if side(samples[k]).Cmp(low) <= 0 {
				flags[i] = true
				break
			}
			if side(samples[k]).Cmp(level) >= 0 {
				break
			}
		}
	}
	return flags
}

// sameFlags compares flags in both directions with those of the definition.
func sameFlags(t *testing.T, samples []float32, level, hysteresis api.Rat) {
	t.Helper()
	for _, isRising := range []bool{true, false} {
		flags, e := acquire.Flags(samples, level, hysteresis, isRising)
		sameList(t, "Flags", flags, e, referenceFlags(samples, valid(level), valid(hysteresis), isRising), api.OK)
	}
}

// P3.5: random samples, some of them at the level or at the other threshold.
func TestFlagsByDefinition(t *testing.T) {
	r := source(9)
	for range 500 {
		samples := make([]float32, r.Intn(60))
		for i := range samples {
			samples[i] = float32(r.Intn(13)-6) / 2
		}
		level, hysteresis := big.NewRat(r.Int63n(13)-6, 2+r.Int63n(2)), big.NewRat(r.Int63n(5), 2+r.Int63n(2))
		sameFlags(t, samples, api.Rat(level.RatString()), api.Rat(hysteresis.RatString()))
	}
}

// P3.5: levels with the most digits, whose difference from the hysteresis has more than a number may have.
func TestFlagsOnTheWay(t *testing.T) {
	r := source(10)
	one := float32(1)
	steps := []float32{one, math.Nextafter32(one, 0), math.Nextafter32(one, 2), math.Nextafter32(one, 3) * 2, 0, -1, math.MaxFloat32, -math.MaxFloat32, math.SmallestNonzeroFloat32}
	samples := make([]float32, 200)
	for i := range samples {
		samples[i] = steps[r.Intn(len(steps))]
	}
	little := "1/1" + zeros(599)
	for _, level := range []api.Rat{"1", little, "-" + little, nines(600) + "/1" + zeros(599), "1" + zeros(598) + "1/1" + zeros(599), nines(599) + "/1" + zeros(599), nines(600), "-" + nines(600), "1/" + nines(600)} {
		for _, hysteresis := range []api.Rat{"0", "1", little, "1/" + nines(600), nines(600), nines(599) + "/" + nines(600)[1:] + "8"} {
			sameFlags(t, samples, level, hysteresis)
		}
	}
}

// P3.5: the longest records.
func TestLongFlags(t *testing.T) {
	r := source(11)
	samples := make([]float32, 4096)
	for i := range samples {
		samples[i] = float32(r.NormFloat64())
	}
	sameFlags(t, samples, "1/3", "2/7")
	sameFlags(t, samples, "1/1"+zeros(599), "1/"+nines(600))
}

// P3.5: the errors of samples, levels and hystereses, in their order.
func TestFlagsErrors(t *testing.T) {
	samples := []float32{1, 2}
	for _, isRising := range []bool{true, false} {
		flags, e := acquire.Flags(make([]float32, 4097), "x", "-1", isRising)
		sameList(t, "Flags", flags, e, nil, api.ErrMany)
		for _, f := range notFinite() {
			flags, e = acquire.Flags([]float32{1, f}, nines(601), "-1", isRising)
			sameList(t, "Flags", flags, e, nil, api.ErrForm)
		}
		for _, bad := range badNumbers() {
			flags, e = acquire.Flags(samples, bad.a, "-1", isRising)
			sameList(t, "Flags", flags, e, nil, bad.e)
			flags, e = acquire.Flags(samples, "-7/2", bad.a, isRising)
			sameList(t, "Flags", flags, e, nil, bad.e)
			flags, e = acquire.Flags(nil, "0", bad.a, isRising)
			sameList(t, "Flags", flags, e, nil, bad.e)
		}
		for _, hysteresis := range []api.Rat{"-1", "-1/" + nines(600), "-" + nines(600)} {
			flags, e = acquire.Flags(samples, "1", hysteresis, isRising)
			sameList(t, "Flags", flags, e, nil, api.ErrRange)
		}
	}
}

// P3.5: samples do not change.
func TestFlagsShareNothing(t *testing.T) {
	samples := []float32{3, 1, 2, negativeZero()}
	for _, isRising := range []bool{true, false} {
		acquire.Flags(samples, "2", "1", isRising)
		sameRecord(t, "the samples", samples, 0, []float32{3, 1, 2, negativeZero()}, 0)
	}
}
