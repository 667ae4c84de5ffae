package measure

import (
	"iter"
	"slices"

	"strobe/api"
	"strobe/common"
	"strobe/number"
	"strobe/rational"
)

// column is a number for each sample of a record.
type column = []rational.Number

// checkFilled returns the error of a record, and ErrShort if it is empty.
func checkFilled(s []float32) api.Errno {
	return common.FirstError(number.CheckSamples(s), common.ErrorIf(len(s) == 0, api.ErrShort))
}

// values visits the exact values of the samples of a record, in their order.
func values(s []float32) iter.Seq[rational.Number] {
	return func(yield func(rational.Number) bool) {
		for _, sample := range s {
			if !yield(rational.Exact(sample)) {
				return
			}
		}
	}
}

// extremes returns the interval from the minimum to the maximum of a record that is not empty.
func extremes(s []float32) rational.Interval {
	return rational.Interval{Low: rational.Exact(slices.Min(s)), High: rational.Exact(slices.Max(s))}
}

// accumulator returns a function that adds a number to all those before it, and returns their sum.
func accumulator() func(rational.Number) rational.Number {
	sum := rational.Of(0)
	return func(x rational.Number) rational.Number {
		sum = sum.Plus(x)
		return sum
	}
}

// total returns the sum of some numbers.
func total(numbers []rational.Number) rational.Number {
	sum := rational.Of(0)
	add := accumulator()
	for _, x := range numbers {
		sum = add(x)
	}
	return sum
}

// gaps returns the differences between each number and the next one.
func gaps(numbers []rational.Number) []rational.Number {
	if len(numbers) == 0 {
		return nil
	}
	return common.Combined(numbers[1:], numbers[:len(numbers)-1], rational.Number.Minus)
}
