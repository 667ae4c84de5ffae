package number

import "strobe/api"

// precisions are the bits with which a cosine is computed, one after the other, until its decimals are certain.
var precisions = [...]int{48, 96, 192}

// guardBits are further bits that absorb the rounding errors: of a computation with w bits,
// they are far below w squared times 100 units, and so below 2 to the power of guardBits.
const guardBits = 64

// Cos returns a span that contains the cosine of a turn.
func Cos(turn api.Rat, decimals int) (api.Span, api.Errno) {
	t, e := readTurn(turn, decimals)
	if e != api.OK {
		return api.Span{}, e
	}
	return t.cosine(decimals)
}

// Sin returns a span that contains the sine of a turn.
func Sin(turn api.Rat, decimals int) (api.Span, api.Errno) {
	t, e := readTurn(turn, decimals)
	if e != api.OK {
		return api.Span{}, e
	}
	return fraction(1, 4).minus(t).cosine(decimals)
}

// readTurn returns the value of a turn, or the first error of it and of the decimals.
func readTurn(turn api.Rat, decimals int) (ratio, api.Errno) {
	t, e := read(turn)
	if e == api.OK && t.bottom.compare(naturalOf(api.MaxNumber)) > 0 {
		e = api.ErrLarge
	}
	return t, first(e, inRange(decimals, 1, MaxDecimals))
}

// fraction returns the quotient of two integers above 0.
func fraction(top, bottom uint64) ratio {
	return lowest(false, naturalOf(top), naturalOf(bottom))
}

// cosine returns the span with the cosine of a turn.
func (a ratio) cosine(decimals int) (api.Span, api.Errno) {
	turn := folded(a)
	if value, ok := exactCosine(turn); ok {
		return api.Span{Low: value, High: value}, api.OK
	}
	mirrored := fraction(1, 2).minus(turn)
	if mirrored.compare(turn) < 0 {
		return acuteCosine(mirrored, decimals).negated().write()
	}
	return acuteCosine(turn, decimals).write()
}

// folded returns the turn from 0 to 1/2 that has the same cosine.
func folded(turn ratio) ratio {
	turn = turn.minus(turn.floor())
	back := integer(1).minus(turn)
	if back.compare(turn) < 0 {
		return back
	}
	return turn
}

// exactCosine returns the cosine of a turn from 0 to 1/2 if it is rational.
func exactCosine(turn ratio) (api.Rat, bool) {
	exact := map[api.Rat]api.Rat{"0": "1", "1/6": "1/2", "1/4": "0", "1/3": "-1/2", "1/2": "-1"}
	text, e := turn.write()
	value, ok := exact[text]
	return value, ok && e == api.OK
}

// acuteCosine returns the decimals around the cosine, if it is irrational, of a turn between 0 and 1/4.
func acuteCosine(turn ratio, decimals int) interval {
	scale := uint64(1)
	for range decimals {
		scale *= 10
	}
	var low natural
	// An irrational cosine is no multiple of 1 / scale, so some precision tells between which two it lies.
grow:
	for attempt := 0; ; attempt++ {
		bits := precision(attempt) + guardBits
		value, bound := cosineSeries(turn, bits), naturalOf(1).shiftedLeft(guardBits)
		// A turn between 0 and 1/4 is at least 1 / (4 MaxNumber) below 1/4, so its cosine is above 2^-30,
		// and the difference is not negative.
		low = value.minus(bound).times(naturalOf(scale)).shiftedRight(bits)
		high := value.plus(bound).times(naturalOf(scale)).shiftedRight(bits)
		if low.compare(high) == 0 {
			break grow
		}
	}
	return step(low, scale)
}

// precision returns the bits of an attempt; after those of the table they double each time.
func precision(attempt int) int {
	last := len(precisions) - 1
	if attempt <= last {
		return precisions[attempt]
	}
	return precisions[last] << (attempt - last)
}

// cosineSeries returns the cosine of a turn between 0 and 1/4, times 2 to the power of bits, nearly.
func cosineSeries(turn ratio, bits int) natural {
	angle, _ := circle(bits).times(turn.top).over(turn.bottom)
	square := angle.times(angle).shiftedRight(bits)
	term := naturalOf(1).shiftedLeft(bits)
	var sums [2]natural
	for n := uint64(0); !term.isZero(); n++ {
		sums[n%2] = sums[n%2].plus(term)
		term, _ = term.times(square).shiftedRight(bits).overWord((2*n + 1) * (2*n + 2))
	}
	return sums[0].minus(sums[1])
}

// circle returns 2 pi times 2 to the power of bits, nearly: Machin's formula.
func circle(bits int) natural {
	large, small := inverseTangent(5, bits), inverseTangent(239, bits)
	return large.times(naturalOf(32)).minus(small.times(naturalOf(8)))
}

// inverseTangent returns the angle whose tangent is 1 / n, times 2 to the power of bits, nearly.
func inverseTangent(n uint64, bits int) natural {
	power, _ := naturalOf(1).shiftedLeft(bits).overWord(n)
	var sums [2]natural
	for k := uint64(0); !power.isZero(); k++ {
		term, _ := power.overWord(2*k + 1)
		sums[k%2] = sums[k%2].plus(term)
		power, _ = power.overWord(n * n)
	}
	return sums[0].minus(sums[1])
}
