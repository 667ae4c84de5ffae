package spectrum

import (
	"strobe/api"
	"strobe/common"
	"strobe/rational"
)

// mean returns the arithmetic mean of some numbers, at least one.
func mean(numbers []rational.Number) rational.Number {
	return common.Folded(rational.Number.Plus, numbers).Over(rational.Of(len(numbers)))
}

// Mean returns the mean of records, value by value.
func Mean(records [][]api.Rat) ([]api.Rat, api.Errno) {
	rows, e := readRecords(records)
	if e != api.OK {
		return nil, e
	}
	return written(len(rows[0]), func(j int) rational.Number {
		return mean(common.Transformed(rows, func(row []rational.Number) rational.Number { return row[j] }))
	})
}

// MeanPower returns an enclosure of the mean power of a bin of records.
func MeanPower(records [][]api.Rat, k, decimals int) (api.Span, api.Errno) {
	rows, e := readRecords(records)
	if e != api.OK {
		return api.Span{}, e
	}
	n := len(rows[0])
	if e := common.FirstError(checkBin(k, n), checkDecimals(decimals)); e != api.OK {
		return api.Span{}, e
	}
	c := circleOf(n, decimals)
	powers := common.Transformed(rows, func(row []rational.Number) rational.Interval { return c.bin(row, k).power() })
	return common.Folded(rational.Interval.Plus, powers).Scaled(rational.Of(1).Over(rational.Of(len(rows)))).Write()
}
