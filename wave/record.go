package wave

import (
	"iter"

	"strobe/rational"
)

// piece is the straight line between the sample with an index and the next one.
type piece struct {
	index       int
	left, right float32
}

// pieces visits the straight lines of a record in order.
func pieces(samples []float32) iter.Seq[piece] {
	return func(yield func(piece) bool) {
		for i := 1; i < len(samples); i++ {
			if !yield(pieceAt(samples, i-1)) {
				return
			}
		}
	}
}

// pieceAt returns the straight line from a sample that is not the last one.
func pieceAt(samples []float32, i int) piece {
	return piece{i, samples[i], samples[i+1]}
}

// rise returns the difference between the values at the end and at the beginning.
func (p piece) rise() rational.Number {
	return rational.Exact(p.right).Minus(rational.Exact(p.left))
}

// value returns the value at a part of the way from the left to the right.
func (p piece) value(part rational.Number) rational.Number {
	return rational.Exact(p.left).Plus(part.Times(p.rise()))
}

// time returns the time at which the line has a value. The line is not level.
func (p piece) time(value rational.Number) rational.Number {
	part := value.Minus(rational.Exact(p.left)).Over(p.rise())
	return rational.Of(p.index).Plus(part)
}

// area returns the integral from the left to a part of the way to the right.
func (p piece) area(part rational.Number) rational.Number {
	return part.Times(half(rational.Exact(p.left).Plus(p.value(part))))
}

// wholeArea returns the integral from the left to the right.
func (p piece) wholeArea() rational.Number {
	return p.area(rational.Of(1))
}

// half returns a / 2.
func half(a rational.Number) rational.Number {
	return a.Over(rational.Of(2))
}

// sum returns a number or an interval plus all the others.
func sum[T interface{ Plus(T) T }](first T, others ...T) T {
	for _, x := range others {
		first = first.Plus(x)
	}
	return first
}

// split returns the integer part of a time of a record, and the rest.
func split(t rational.Number) (int, rational.Number) {
	whole := t.Floor()
	i, _ := whole.Int()
	return i, t.Minus(whole)
}

// interpolated returns the linear interpolation at a time of a record.
func interpolated(samples []float32, t rational.Number) rational.Number {
	i, rest := split(t)
	// There is no line from the last sample.
	if rest.Sign() == 0 {
		return rational.Exact(samples[i])
	}
	return pieceAt(samples, i).value(rest)
}
