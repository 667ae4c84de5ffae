package common_test

import (
	"math"
	"slices"
	"strconv"
	"testing"

	"strobe/api"
	"strobe/common"
)

func TestFirstError(t *testing.T) {
	for _, row := range []struct {
		errors []api.Errno
		first  api.Errno
	}{
		{nil, api.OK}, {[]api.Errno{api.OK, api.OK}, api.OK}, {[]api.Errno{api.ErrMany}, api.ErrMany},
		{[]api.Errno{api.OK, api.ErrShape, api.ErrForm}, api.ErrShape}, {[]api.Errno{api.ErrForm, api.OK, api.ErrShape}, api.ErrForm},
	} {
		if e := common.FirstError(row.errors...); e != row.first {
			t.Errorf("FirstError %v: got %d, want %d", row.errors, e, row.first)
		}
	}
}

func TestErrorIf(t *testing.T) {
	if e := common.ErrorIf(true, api.ErrKind); e != api.ErrKind {
		t.Errorf("ErrorIf: got %d", e)
	}
	if e := common.ErrorIf(false, api.ErrKind); e != api.OK {
		t.Errorf("ErrorIf: got %d", e)
	}
}

func TestInRange(t *testing.T) {
	for n, wanted := range map[int]api.Errno{math.MinInt: api.ErrRange, -3: api.ErrRange, -2: api.OK, 0: api.OK, 5: api.OK, 6: api.ErrRange, math.MaxInt: api.ErrRange} {
		if e := common.InRange(n, -2, 5); e != wanted {
			t.Errorf("InRange %d: got %d, want %d", n, e, wanted)
		}
	}
}

func TestAtMost(t *testing.T) {
	for n, wanted := range []api.Errno{api.OK, api.OK, api.OK, api.ErrMany, api.ErrMany} {
		if e := common.AtMost(make([]string, n), 2); e != wanted {
			t.Errorf("AtMost %d: got %d, want %d", n, e, wanted)
		}
	}
}

func TestTransformed(t *testing.T) {
	list := []int{3, 1, 2}
	if texts := common.Transformed(list, strconv.Itoa); !slices.Equal(texts, []string{"3", "1", "2"}) {
		t.Errorf("Transformed: got %v", texts)
	}
	same := common.Transformed(list, func(n int) int { return n })
	same[0] = 9
	if list[0] != 3 {
		t.Error("a list and the transformed one share memory")
	}
	if len(common.Transformed(nil, strconv.Itoa)) != 0 {
		t.Error("Transformed has elements of an empty list")
	}
}

func TestConverted(t *testing.T) {
	// The text of each number, whose sign and number of digits have errors of their own.
	convert := func(n int) (string, api.Errno) {
		return strconv.Itoa(n), common.FirstError(common.ErrorIf(n < 0, api.ErrRange), common.ErrorIf(n > 9, api.ErrLarge))
	}
	for _, row := range []struct {
		list  []int
		texts []string
		e     api.Errno
	}{
		{nil, nil, api.OK}, {[]int{3, 1, 2}, []string{"3", "1", "2"}, api.OK}, {[]int{3, 10, -1}, nil, api.ErrLarge}, {[]int{-1, 10}, nil, api.ErrRange}, {[]int{1, 2, -1}, nil, api.ErrRange},
	} {
		texts, e := common.Converted(row.list, convert)
		if !slices.Equal(texts, row.texts) || e != row.e {
			t.Errorf("Converted %v: got %v, %d, want %v, %d", row.list, texts, e, row.texts, row.e)
		}
	}
}

func TestCombined(t *testing.T) {
	a, b := []int{5, 1, 2}, []int{3, 4, 2}
	if texts := common.Combined(a, b, func(x, y int) string { return strconv.Itoa(x - y) }); !slices.Equal(texts, []string{"2", "-3", "0"}) {
		t.Errorf("Combined: got %v", texts)
	}
	first := common.Combined(a, b, func(x, _ int) int { return x })
	first[0] = 9
	if a[0] != 5 || b[0] != 3 {
		t.Error("a list and the combined one share memory")
	}
	if len(common.Combined(nil, []int{}, func(x, y int) int { return x + y })) != 0 {
		t.Error("Combined has elements of empty lists")
	}
}

func TestFolded(t *testing.T) {
	join := func(a, b string) string { return "(" + a + b + ")" }
	for wanted, elements := range map[string][]string{"a": {"a"}, "(ab)": {"a", "b"}, "((ab)c)": {"a", "b", "c"}} {
		if got := common.Folded(join, elements); got != wanted {
			t.Errorf("Folded %v: got %s", elements, got)
		}
	}
}

func TestPositiveZero(t *testing.T) {
	for _, f := range []float32{0, 1, -1, math.SmallestNonzeroFloat32, -math.SmallestNonzeroFloat32, math.MaxFloat32} {
		if got := common.PositiveZero(f); got != f {
			t.Errorf("PositiveZero %g: got %g", f, got)
		}
	}
	if zero := common.PositiveZero(float32(math.Copysign(0, -1))); math.Float32bits(zero) != 0 {
		t.Error("PositiveZero returns -0")
	}
}
