package eye

import (
	"iter"

	"strobe/api"
	"strobe/common"
	"strobe/number"
	"strobe/rational"
)

// clock is the value of a Clock.
type clock struct {
	start, period rational.Number
}

// readClock returns the value of a clock, or its error.
func readClock(c Clock) (clock, api.Errno) {
	values, e := rational.ReadAll([]api.Rat{c.Start, c.Period})
	if e != api.OK {
		return clock{}, e
	}
	return clock{values[0], values[1]}, common.ErrorIf(values[1].Sign() <= 0, api.ErrRange)
}

// readSampled returns the value of a clock of samples, or the first error of both.
func readSampled(c Clock, samples []float32) (clock, api.Errno) {
	x, e := readClock(c)
	return x, common.FirstError(e, number.CheckSamples(samples))
}

// fold returns the bit number and the phase of a time.
func (c clock) fold(t rational.Number) (rational.Number, rational.Number) {
	turns := t.Minus(c.start).Over(c.period)
	bit := turns.Floor()
	return bit, turns.Minus(bit)
}

// place is where a sample lies: its index, its bit number, and its phase and value.
type place struct {
	sample       int
	bit          rational.Number
	phase, value rational.Number
}

// point returns the phase and the value.
func (p place) point() point { return pointOf(p.phase, p.value) }

// places visits the places of samples in their order.
func (c clock) places(samples []float32) iter.Seq[place] {
	return func(yield func(place) bool) {
		for j, sample := range samples {
			bit, phase := c.fold(rational.Of(j))
			if !yield(place{j, bit, phase, rational.Exact(sample)}) {
				return
			}
		}
	}
}

// firstBit returns the number of the first bit whose centre is not before a time.
func (c clock) firstBit(t rational.Number) rational.Number {
	turns := t.Minus(c.start).Over(c.period)
	return half().Minus(turns).Floor().Negated()
}

// sampleOf returns the nearest integer to the centre of a bit, and the greater one of two.
func (c clock) sampleOf(bit int) rational.Number {
	centre := c.start.Plus(c.period.Times(rational.Of(bit).Plus(half())))
	return centre.Plus(half()).Floor()
}

// half returns 1/2.
func half() rational.Number {
	return rational.Of(1).Over(rational.Of(2))
}

// bitNumber returns the value of a bit number, or ErrLarge if it is not from -MaxNumber to MaxNumber.
func bitNumber(bit rational.Number) (int, api.Errno) {
	n, isSmall := bit.Magnitude().Int()
	return n * bit.Sign(), common.ErrorIf(!isSmall, api.ErrLarge)
}

// CheckClock returns the first error of a clock, or OK.
func CheckClock(c Clock) api.Errno {
	_, e := readClock(c)
	return e
}

// Fold returns the bit number and the phase of a time.
func Fold(c Clock, t api.Rat) (int, api.Rat, api.Errno) {
	x, errClock := readClock(c)
	time, errTime := rational.Read(t)
	if e := common.FirstError(errClock, errTime); e != api.OK {
		return 0, "", e
	}
	bit, phase := x.fold(time)
	n, errBit := bitNumber(bit)
	text, errPhase := phase.Write()
	if e := common.FirstError(errBit, errPhase); e != api.OK {
		return 0, "", e
	}
	return n, text, api.OK
}

// Bits returns the bits of samples.
func Bits(c Clock, samples []float32, level api.Rat) ([]Bit, api.Errno) {
	x, errClock := readSampled(c, samples)
	least, errLevel := rational.Read(level)
	if e := common.FirstError(errClock, errLevel); e != api.OK {
		return nil, e
	}
	// A centre is rounded to the index of a sample if it is at least -1/2, and less than the number of samples less 1/2.
	first, end := x.firstBit(half().Negated()), x.firstBit(rational.Of(len(samples)).Minus(half()))
	count, isSmall := end.Minus(first).Int()
	if !isSmall || count > api.MaxSamples {
		return nil, api.ErrMany
	}
	bits := make([]Bit, count)
	for i := range bits {
		n, e := bitNumber(first.Plus(rational.Of(i)))
		if e != api.OK {
			return nil, e
		}
		j, _ := x.sampleOf(n).Int()
		bits[i] = Bit{Number: n, Sample: j, High: rational.Exact(samples[j]).Compare(least) >= 0}
	}
	return bits, api.OK
}
