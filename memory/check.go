package memory

import (
	"strobe/api"
	"strobe/common"
	"strobe/number"
)

// checkBlock returns the error of a block size.
func checkBlock(block int) api.Errno {
	return common.InRange(block, 1, MaxBlock)
}

// checkColumns returns the error of a number of columns or of parts.
func checkColumns(columns int) api.Errno {
	return common.InRange(columns, 1, MaxColumns)
}

// checkRange returns the error of a range of n samples.
func checkRange(from, to, n int) api.Errno {
	return common.FirstError(common.InRange(from, 0, n), common.InRange(to, 0, n), common.ErrorIf(to < from, api.ErrOrder))
}

// checkFinite returns ErrForm if one of some floats is not finite. There are not more than a record may have.
func checkFinite(floats ...float32) api.Errno {
	return number.CheckSamples(floats)
}
