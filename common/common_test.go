package common_test

import (
	"math"
	"slices"
	"strconv"
	"testing"

	"strobe/api"
	"strobe/common"
)

func TestFirstError(t *testing.T) {
	for _, row := range []struct {
		errors []api.Errno
		first  api.Errno
	}{
		{nil, api.OK}, {[]api.Errno{api.OK, api.OK}, api.OK}, {[]api.Errno{api.ErrMany}, api.ErrMany},
		{[]api.Errno{api.OK, api.ErrShape, api.ErrForm}, api.ErrShape}, {[]api.Errno{api.ErrForm, api.OK, api.ErrShape}, api.ErrForm},
	} {
		if e := common.FirstError(row.errors...); e != row.first {
			t.Errorf("FirstError %v: got %d, want %d", row.errors, e, row.first)
		}
	}
}

func TestInRange(t *testing.T) {
	for n, wanted := range map[int]api.Errno{math.MinInt: api.ErrRange, -3: api.ErrRange, -2: api.OK, 0: api.OK, 5: api.OK, 6: api.ErrRange, math.MaxInt: api.ErrRange} {
		if e := common.InRange(n, -2, 5); e != wanted {
			t.Errorf("InRange %d: got %d, want %d", n, e, wanted)
		}
	}
}

func TestAtMost(t *testing.T) {
	for n, wanted := range []api.Errno{api.OK, api.OK, api.OK, api.ErrMany, api.ErrMany} {
		if e := common.AtMost(make([]string, n), 2); e != wanted {
			t.Errorf("AtMost %d: got %d, want %d", n, e, wanted)
		}
	}
}

func TestTransformed(t *testing.T) {
	list := []int{3, 1, 2}
	if texts := common.Transformed(list, strconv.Itoa); !slices.Equal(texts, []string{"3", "1", "2"}) {
		t.Errorf("Transformed: got %v", texts)
	}
	same := common.Transformed(list, func(n int) int { return n })
	same[0] = 9
	if list[0] != 3 {
		t.Error("a list and the transformed one share memory")
	}
	if len(common.Transformed(nil, strconv.Itoa)) != 0 {
		t.Error("Transformed has elements of an empty list")
	}
}

func TestPositiveZero(t *testing.T) {
	for _, f := range []float32{0, 1, -1, math.SmallestNonzeroFloat32, -math.SmallestNonzeroFloat32, math.MaxFloat32} {
		if got := common.PositiveZero(f); got != f {
			t.Errorf("PositiveZero %g: got %g", f, got)
		}
	}
	if zero := common.PositiveZero(float32(math.Copysign(0, -1))); math.Float32bits(zero) != 0 {
		t.Error("PositiveZero returns -0")
	}
}
