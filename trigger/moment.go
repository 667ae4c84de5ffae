package trigger

import "iter"

// moment is the symbol of a sample, and the one of the sample before.
type moment struct {
	before, now int
}

// moments visits the samples of a signal, in their order. The sample before the first one has the same symbol.
func moments(signal []int) iter.Seq2[int, moment] {
	return func(yield func(int, moment) bool) {
		for t, symbol := range signal {
			if !yield(t, moment{signal[max(t-1, 0)], symbol}) {
				return
			}
		}
	}
}

// isHigh reports whether a line is high in a symbol.
func isHigh(symbol, line int) bool {
	return symbol>>line&1 == 1
}

// fits reports whether the lines have the levels of a pattern in a symbol.
func fits(symbol int, pattern string) bool {
	for line, level := range pattern {
		if level != 'x' && isHigh(symbol, line) != (level == '1') {
			return false
		}
	}
	return true
}

// rises reports whether a line rises.
func (m moment) rises(line int) bool {
	return isHigh(m.now, line) && !isHigh(m.before, line)
}

// falls reports whether a line falls.
func (m moment) falls(line int) bool {
	return m.inverted().rises(line)
}

// inverted returns the moment at which each line has the other level.
func (m moment) inverted() moment {
	return moment{^m.before, ^m.now}
}

// takePulse has the length of the run of high samples as its memory, up to the first length that is too great.
// It is 0 in a run that begins at time 0, as its line does not rise.
func takePulse(c Cond, length int, m moment) (int, bool) {
	switch {
	case m.rises(c.A):
		return 1, false
	case m.falls(c.A):
		return 0, c.Min <= length && length <= c.Max
	case length > 0:
		return min(length+1, c.Max+1), false
	}
	return 0, false
}

// takeGap is takePulse with the other levels.
func takeGap(c Cond, length int, m moment) (int, bool) {
	return takePulse(c, length, m.inverted())
}

// takeIdle has the length of the run as its memory, up to the first length that is too great.
func takeIdle(c Cond, length int, m moment) (int, bool) {
	if m.rises(c.A) || m.falls(c.A) {
		length = 0
	}
	length = min(length+1, c.Min+1)
	return length, length == c.Min
}

// takeSetup has as its memory at how many of the next samples the last change of the data is near enough.
func takeSetup(c Cond, left int, m moment) (int, bool) {
	if m.rises(c.A) || m.falls(c.A) {
		left = c.Min
	}
	return max(left-1, 0), left > 0 && m.rises(c.B)
}

// takeRunt has the memory 1 in a run of high samples that may still be a runt. A run that begins at time 0 never is one,
// as its line does not rise.
func takeRunt(c Cond, memory int, m moment) (int, bool) {
	if m.falls(c.A) {
		return 0, memory == 1
	}
	if (m.rises(c.A) || memory == 1) && !isHigh(m.now, c.B) {
		return 1, false
	}
	return 0, false
}
