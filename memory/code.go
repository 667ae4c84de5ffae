package memory

import (
	"strobe/api"
	"strobe/common"
)

// longByte is the least first byte of a number that has two bytes, and how much one more in the second byte adds to it.
const longByte = 128

// natural returns the natural number that stands for a difference.
func natural(difference int) int {
	if difference < 0 {
		return -2*difference - 1
	}
	return 2 * difference
}

// difference returns the difference for which a natural number stands.
func difference(z int) int {
	if z%2 == 1 {
		return -(z + 1) / 2
	}
	return z / 2
}

// packed returns the bytes of a natural number.
func packed(z int) []byte {
	if z < longByte {
		return []byte{byte(z)}
	}
	return []byte{byte(z%longByte + longByte), byte(z / longByte)}
}

// unpacked returns the natural number with which data begin, which are not empty, and its number of bytes, or its error.
func unpacked(data []byte) (int, int, api.Errno) {
	switch first := int(data[0]); {
	case first < longByte:
		return first, 1, api.OK
	case len(data) == 1:
		return 0, 0, api.ErrTorn
	case data[1] == 0 || data[1] >= longByte:
		return 0, 0, api.ErrForm
	default:
		return first - longByte + longByte*int(data[1]), 2, api.OK
	}
}

// checkCode returns the error of a code.
func checkCode(code int) api.Errno {
	return common.InRange(code, 0, MaxCode)
}

// Pack returns codes as bytes.
func Pack(codes []int) ([]byte, api.Errno) {
	if e := common.AtMost(codes, api.MaxSamples); e != api.OK {
		return nil, e
	}
	if e := common.FirstError(common.Transformed(codes, checkCode)...); e != api.OK {
		return nil, e
	}
	var data []byte
	before := 0
	for _, code := range codes {
		data = append(data, packed(natural(code-before))...)
		before = code
	}
	return data, api.OK
}

// Unpack returns the codes in bytes.
func Unpack(data []byte) ([]int, api.Errno) {
	if len(data) > 2*api.MaxSamples {
		return nil, api.ErrLong
	}
	var codes []int
	code := 0
	for len(data) > 0 {
		z, size, e := unpacked(data)
		code += difference(z)
		if e := common.FirstError(e, checkCode(code), common.ErrorIf(len(codes) == api.MaxSamples, api.ErrMany)); e != api.OK {
			return nil, e
		}
		codes = append(codes, code)
		data = data[size:]
	}
	return codes, api.OK
}
