package bench_test

import (
	"fmt"
	"math"
	"math/rand"
	"reflect"
	"slices"
	"strings"
	"testing"

	"strobe/api"
	"strobe/bench"
)

// exampleSetup returns the set-up s of the chapter's examples.
func exampleSetup() bench.Setup {
	return bench.Setup{Name: "s", Instruments: []bench.Instrument{{Name: "a", Delay: 5}}, Pre: 2, Post: 4, Level: "1/2"}
}

// exampleScript returns the script of the chapter's examples.
func exampleScript() []bench.Command {
	return []bench.Command{arm("a"), repeat(2), wait(3), trigger(), end(), disarm("a")}
}

// exampleEvents returns the events of the chapter's examples.
func exampleEvents() []api.Event {
	return []api.Event{
		{Number: 1, Kind: "add", Names: []string{"a"}, Values: []int{1, 5}},
		{Number: 2, Kind: "frame", Names: []string{"s"}, Values: []int{1, 2, 4}},
		{Number: 3, Kind: "cal", Names: []string{"a"}, Values: []int{9, 7}},
		{Number: 4, Kind: "run", Names: []string{"s"}, Values: []int{9}, Text: "arm a; trigger"},
	}
}

// arm and the functions after it return commands.
func arm(name string) bench.Command    { return bench.Command{Op: "arm", Name: name} }
func disarm(name string) bench.Command { return bench.Command{Op: "disarm", Name: name} }
func wait(count int) bench.Command     { return bench.Command{Op: "wait", Count: count} }
func trigger() bench.Command           { return bench.Command{Op: "trigger"} }
func repeat(count int) bench.Command   { return bench.Command{Op: "repeat", Count: count} }
func end() bench.Command               { return bench.Command{Op: "end"} }

// times returns a command as often as is said.
func times(count int, c bench.Command) []bench.Command {
	return slices.Repeat([]bench.Command{c}, count)
}

// repeated returns a repeat with its body and its end.
func repeated(count int, body ...bench.Command) []bench.Command {
	return slices.Concat([]bench.Command{repeat(count)}, body, []bench.Command{end()})
}

// nines returns a number of n digits 9.
func nines(n int) api.Rat { return api.Rat(strings.Repeat("9", n)) }

// source returns a sequence of random numbers that is the same on each run.
func source(seed int64) *rand.Rand { return rand.New(rand.NewSource(seed)) }

// pick returns a random one of some elements.
func pick[T any](r *rand.Rand, elements ...T) T { return elements[r.Intn(len(elements))] }

// far returns integers that are in no range.
func far() []int {
	return []int{math.MinInt, math.MinInt + 1, -1, 2000000000, math.MaxInt}
}

// badNames returns strings that are no names.
func badNames() []string {
	return []string{"", "1", "_a", "a-b", "a b", " a", "a ", "a\n", "a;", "a#", "ä", "\xff", "a\x00", strings.Repeat("a", 25), strings.Repeat("a", 10000)}
}

// goodNames returns names.
func goodNames() []string {
	return []string{"a", "Z", "a1", "A_", "end", "x_9Y", strings.Repeat("a", 24)}
}

// names returns n different names.
func names(n int) []string {
	var l []string
	for i := range n {
		l = append(l, "i"+strings.Repeat("x", i/10)+string(rune('0'+i%10)))
	}
	return l
}

// instruments returns n different instruments.
func instruments(n int) []bench.Instrument {
	var l []bench.Instrument
	for i, name := range names(n) {
		l = append(l, bench.Instrument{Name: name, Delay: i})
	}
	return l
}

// fault makes a correct value wrong.
type fault[T any] struct {
	apply func(*T)
	e     api.Errno
}

// firstFault checks that of two faults of a value, which are in the order of their errors, the first one decides.
func firstFault[T any](t *testing.T, what string, correct func() T, check func(T) api.Errno, faults []fault[T]) {
	t.Helper()
	isError(t, what, check(correct()), api.OK)
	for i, first := range faults {
		for j, second := range faults[i:] {
			x := correct()
			second.apply(&x)
			first.apply(&x)
			if e := check(x); e != first.e {
				t.Errorf("%s: with the faults %d and %d: got the error %d, want %d", what, i, i+j, e, first.e)
			}
		}
	}
}

// alike reports whether two values are the same; nil and empty lists are.
func alike(a, b reflect.Value) bool {
	switch a.Kind() {
	case reflect.Slice:
		for i := 0; i < a.Len() && a.Len() == b.Len(); i++ {
			if !alike(a.Index(i), b.Index(i)) {
				return false
			}
		}
		return a.Len() == b.Len()
	case reflect.Struct:
		for i := range a.NumField() {
			if !alike(a.Field(i), b.Field(i)) {
				return false
			}
		}
		return true
	}
	return a.Equal(b)
}

// same reports a result or an error that differs from the expected one.
func same[T any](t *testing.T, what string, got T, gotError api.Errno, wanted T, wantedError api.Errno) {
	t.Helper()
	if gotError != wantedError || !alike(reflect.ValueOf(got), reflect.ValueOf(wanted)) {
		t.Errorf("%.500s: got %s, %d, want %s, %d", what, shown(got), gotError, shown(wanted), wantedError)
	}
}

// shown returns the beginning of the text of a value, which may be very long.
func shown(value any) string { return fmt.Sprintf("%.500s", fmt.Sprintf("%+v", value)) }

// sameAt is same for a result with a number beside it.
func sameAt[T any](t *testing.T, what string, got T, gotAt int, gotError api.Errno, wanted T, wantedAt int, wantedError api.Errno) {
	t.Helper()
	same(t, what, got, gotError, wanted, wantedError)
	if gotAt != wantedAt {
		t.Errorf("%s: got the number %d, want %d", what, gotAt, wantedAt)
	}
}

// isError reports an error that differs from the expected one.
func isError(t *testing.T, what string, got, wanted api.Errno) {
	t.Helper()
	if got != wanted {
		t.Errorf("%s: got the error %d, want %d", what, got, wanted)
	}
}

// decided reports outcomes that random arguments have had too seldom.
func decided[T comparable](t *testing.T, what string, found map[T]int, wanted ...T) {
	t.Helper()
	for _, outcome := range wanted {
		if found[outcome] < 20 {
			t.Errorf("%s: the arguments decide too little: %v", what, found)
		}
	}
}

// damaged returns a text in which some bytes are changed, removed, inserted, or exchanged with parts of the text.
func damaged(r *rand.Rand, text string, bytes string) string {
	for range r.Intn(3) {
		at, to := r.Intn(len(text)+1), 0
		to = min(len(text), at+r.Intn(3))
		switch r.Intn(4) {
		case 0:
			text = text[:at] + text[to:]
		case 1:
			text = text[:at] + string(bytes[r.Intn(len(bytes))]) + text[to:]
		case 2:
			text = text[:at] + string(bytes[r.Intn(len(bytes))]) + text[at:]
		case 3:
			text = text[:to] + text[at:]
		}
	}
	return text
}
