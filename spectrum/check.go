package spectrum

import (
	"strobe/api"
	"strobe/common"
	"strobe/number"
	"strobe/rational"
)

// checkSize returns ErrEmpty or ErrMany if a list does not have from 1 to most elements.
func checkSize[T any](list []T, most int) api.Errno {
	return common.FirstError(common.ErrorIf(len(list) == 0, api.ErrEmpty), common.AtMost(list, most))
}

// checkPoints returns the error of a number of points.
func checkPoints(n int) api.Errno {
	return common.InRange(n, 1, MaxPoints)
}

// checkBin returns the error of a bin of n values.
func checkBin(k, n int) api.Errno {
	return common.InRange(k, 0, n-1)
}

// checkDecimals returns the error of decimals.
func checkDecimals(decimals int) api.Errno {
	return common.InRange(decimals, 1, number.MaxDecimals)
}

// readValues returns the values of numbers, or their error.
func readValues(values []api.Rat) ([]rational.Number, api.Errno) {
	if e := checkSize(values, MaxPoints); e != api.OK {
		return nil, e
	}
	return rational.ReadAll(values)
}

// readPair returns the values of two lists of equal length, or the first error of both.
func readPair(a, b []api.Rat) ([]rational.Number, []rational.Number, api.Errno) {
	x, errA := readValues(a)
	y, errB := readValues(b)
	if e := common.FirstError(errA, errB, common.ErrorIf(len(x) != len(y), api.ErrShape)); e != api.OK {
		return nil, nil, e
	}
	return x, y, api.OK
}

// readRecords returns the values of records of equal length, or their error.
func readRecords(records [][]api.Rat) ([][]rational.Number, api.Errno) {
	if e := checkSize(records, MaxRecords); e != api.OK {
		return nil, e
	}
	return common.Converted(records, func(record []api.Rat) ([]rational.Number, api.Errno) {
		values, e := readValues(record)
		return values, common.FirstError(e, common.ErrorIf(len(record) != len(records[0]), api.ErrShape))
	})
}

// written returns the numbers with the values of a function at 0, 1, ..., n - 1, or the first error of one.
func written(n int, value func(int) rational.Number) ([]api.Rat, api.Errno) {
	texts := make([]api.Rat, n)
	for i := range texts {
		text, e := value(i).Write()
		if e != api.OK {
			return nil, e
		}
		texts[i] = text
	}
	return texts, api.OK
}
