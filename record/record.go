// Package record has what several layers ask about records: on which side of a level samples are,
// and where a record passes from one side to the other.
package record

import (
	"strobe/common"
	"strobe/rational"
)

// Signs returns the sign of each sample less a level.
func Signs(samples []float32, level rational.Number) []int {
	differences := common.Transformed(samples, func(sample float32) rational.Number {
		return rational.Exact(sample).Minus(level)
	})
	return common.Transformed(differences, rational.Number.Sign)
}

// SureSides returns for each sample -1 if it is below a level by more than the noise, 1 if it is above it by more
// than the noise, and otherwise 0.
func SureSides(samples []float32, level, noise rational.Number) []int {
	shifted := func(by rational.Number) []int { return Signs(samples, level.Plus(by)) }
	lower, upper := shifted(noise.Negated()), shifted(noise)
	sides := make([]int, len(samples))
	for i := range sides {
		// A sample is surely low or high if it is on the same side of both levels.
		if lower[i] == upper[i] {
			sides[i] = lower[i]
		}
	}
	return sides
}

// PassageEnd returns the sample with which the passage from a sample to the other side ends, or that sample itself
// if there is none: all samples between both are on no side.
func PassageEnd(sides []int, from int) int {
	end := from
search:
	for i := from + 1; sides[from] != 0 && i < len(sides); i++ {
		switch sides[i] {
		case sides[from]:
			break search
		case -sides[from]:
			end = i
			break search
		}
	}
	return end
}
