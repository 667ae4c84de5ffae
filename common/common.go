// Package common has the small functions that several layers share: first errors, ranges, and lists.
package common

import "strobe/api"

// FirstError returns the first error, or OK.
func FirstError(errors ...api.Errno) api.Errno {
	for _, e := range errors {
		if e != api.OK {
			return e
		}
	}
	return api.OK
}

// ErrorIf returns an error if there is one, and otherwise OK.
func ErrorIf(isError bool, e api.Errno) api.Errno {
	if isError {
		return e
	}
	return api.OK
}

// InRange returns ErrRange if n is not from least to most.
func InRange(n, least, most int) api.Errno {
	return ErrorIf(n < least || n > most, api.ErrRange)
}

// AtMost returns ErrMany if a list has more than most elements.
func AtMost[T any](list []T, most int) api.Errno {
	return ErrorIf(len(list) > most, api.ErrMany)
}

// Transformed returns the results of a function for the elements of a list, in their order.
func Transformed[From, To any](list []From, change func(From) To) []To {
	results := make([]To, len(list))
	for i, element := range list {
		results[i] = change(element)
	}
	return results
}

// Converted returns what a function makes of the elements of a list, in their order, or the first error of one.
func Converted[From, To any](list []From, convert func(From) (To, api.Errno)) ([]To, api.Errno) {
	results := make([]To, len(list))
	for i, element := range list {
		result, e := convert(element)
		if e != api.OK {
			return nil, e
		}
		results[i] = result
	}
	return results, api.OK
}

// Combined returns what a function makes of the elements with the same index of two lists that are equally long.
func Combined[From, To any](a, b []From, combine func(From, From) To) []To {
	results := make([]To, len(a))
	for i, x := range a {
		results[i] = combine(x, b[i])
	}
	return results
}

// Folded returns the first of some elements, joined with each of the others in turn. There is at least one.
func Folded[T any](join func(T, T) T, elements []T) T {
	result := elements[0]
	for _, x := range elements[1:] {
		result = join(result, x)
	}
	return result
}

// PositiveZero returns 0 for -0, and every other sample as it is: no result is -0.
func PositiveZero(sample float32) float32 {
	if sample == 0 {
		return 0
	}
	return sample
}
