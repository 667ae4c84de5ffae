package number

import "strobe/api"

// first returns the first error, or OK.
func first(errors ...api.Errno) api.Errno {
	for _, e := range errors {
		if e != api.OK {
			return e
		}
	}
	return api.OK
}

// inRange returns ErrRange if n is not from least to most.
func inRange(n, least, most int) api.Errno {
	if n < least || n > most {
		return api.ErrRange
	}
	return api.OK
}

// checkList returns ErrEmpty or ErrMany if a list does not have from least to most elements,
// and then the error of the first element that has one.
func checkList[T any](list []T, least, most int, check func(int, T) api.Errno) api.Errno {
	if len(list) < least {
		return api.ErrEmpty
	}
	if len(list) > most {
		return api.ErrMany
	}
	for i, element := range list {
		if e := check(i, element); e != api.OK {
			return e
		}
	}
	return api.OK
}

// combine reads two arguments and writes the result of an operation on their values.
func combine[Text, Value any](
	a, b Text,
	read func(Text) (Value, api.Errno),
	operation func(Value, Value) Value,
	write func(Value) (Text, api.Errno),
) (Text, api.Errno) {
	x, errX := read(a)
	y, errY := read(b)
	if e := first(errX, errY); e != api.OK {
		var none Text
		return none, e
	}
	return write(operation(x, y))
}
