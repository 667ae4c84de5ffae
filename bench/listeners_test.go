package bench_test

import (
	"fmt"
	"slices"
	"sync"
	"testing"

	"strobe/api"
	"strobe/bench"
)

// newBench returns a bench with a set-up.
func newBench(t *testing.T, s bench.Setup) *bench.Bench {
	t.Helper()
	b, e := bench.New(s)
	if b == nil || e != api.OK {
		t.Fatalf("New: got %v, %d", b, e)
	}
	return b
}

// subscribed returns the channel of a new listener.
func subscribed(t *testing.T, b *bench.Bench, capacity int) bench.Feed {
	t.Helper()
	c, e := b.Subscribe(capacity)
	if c == nil || e != api.OK || cap(c) != capacity || len(c) != 0 {
		t.Fatalf("Subscribe: got a channel for %d shots, %d", cap(c), e)
	}
	return c
}

// drained checks what Drain returns.
func drained(t *testing.T, what string, b *bench.Bench, c bench.Feed, wanted []bench.Shot, wantedLost int) {
	t.Helper()
	shots, lost, e := b.Drain(c)
	sameAt(t, what, shots, lost, e, wanted, wantedLost, api.OK)
}

// P10.3: the listener of the example.
func TestExampleListener(t *testing.T) {
	b := newBench(t, exampleSetup())
	c := subscribed(t, b, 1)
	n, e := b.Execute(exampleScript())
	same(t, "Execute", n, e, 2, api.OK)
	drained(t, "the first shots", b, c, []bench.Shot{{"a", 1, 3, 6, 12}}, 1)
	drained(t, "again", b, c, nil, 0)
	late := subscribed(t, b, 64)
	n, e = b.Execute(exampleScript())
	same(t, "Execute", n, e, 2, api.OK)
	drained(t, "the next shots", b, c, []bench.Shot{{"a", 3, 9, 12, 18}}, 1)
	drained(t, "another listener", b, late, []bench.Shot{{"a", 3, 9, 12, 18}, {"a", 4, 12, 15, 21}}, 0)
}

// P10.3: capacities and the number of listeners are limited.
func TestSubscribe(t *testing.T) {
	b := newBench(t, exampleSetup())
	for _, capacity := range append(far(), 0, 65) {
		c, e := b.Subscribe(capacity)
		if c != nil || e != api.ErrRange {
			t.Errorf("Subscribe %d: got %v, %d", capacity, c, e)
		}
	}
	var feeds []bench.Feed
	for i := range 16 {
		c := subscribed(t, b, []int{1, 2, 63, 64}[i%4])
		if slices.Contains(feeds, c) {
			t.Error("Subscribe returns the same channel twice")
		}
		feeds = append(feeds, c)
	}
	for capacity, wanted := range map[int]api.Errno{1: api.ErrMany, 64: api.ErrMany, 65: api.ErrRange, 0: api.ErrRange} {
		c, e := b.Subscribe(capacity)
		if c != nil || e != wanted {
			t.Errorf("Subscribe %d: got %v, %d, want %d", capacity, c, e, wanted)
		}
	}
	isError(t, "Unsubscribe", b.Unsubscribe(feeds[7]), api.OK)
	isError(t, "Unsubscribe again", b.Unsubscribe(feeds[7]), api.ErrUnknown)
	feeds[7] = subscribed(t, b, 5)
	_, e := b.Execute(exampleScript())
	isError(t, "Execute", e, api.OK)
	for _, c := range feeds {
		drained(t, "a listener", b, c, []bench.Shot{{"a", 1, 3, 6, 12}, {"a", 2, 6, 9, 15}}[:min(cap(c), 2)], 2-min(cap(c), 2))
	}
}

// P10.3: channels that are not those of listeners, and a bench that is nil, or that New did not make.
func TestUnknownListeners(t *testing.T) {
	b, other := newBench(t, exampleSetup()), newBench(t, exampleSetup())
	subscribed(t, b, 3)
	for what, c := range map[string]bench.Feed{"nil": nil, "a channel of another bench": subscribed(t, other, 3), "a channel of its own": make(bench.Feed, 3)} {
		isError(t, "Unsubscribe of "+what, b.Unsubscribe(c), api.ErrUnknown)
		shots, lost, e := b.Drain(c)
		sameAt(t, "Drain of "+what, shots, lost, e, nil, 0, api.ErrUnknown)
		var none *bench.Bench
		isError(t, "Unsubscribe without a bench", none.Unsubscribe(c), api.ErrState)
		shots, lost, e = none.Drain(c)
		sameAt(t, "Drain without a bench", shots, lost, e, nil, 0, api.ErrState)
	}
	var none *bench.Bench
	c, e := none.Subscribe(0)
	if c != nil || e != api.ErrState {
		t.Errorf("Subscribe without a bench: got %v, %d", c, e)
	}
	n, e := none.Execute([]bench.Command{{Op: "x"}})
	same(t, "Execute without a bench", n, e, 0, api.ErrState)
	var zero bench.Bench
	isError(t, "Unsubscribe of the zero value", zero.Unsubscribe(nil), api.ErrUnknown)
	c = subscribed(t, &zero, 1)
	n, e = zero.Execute([]bench.Command{wait(3), arm("a")})
	same(t, "Execute of the zero value", n, e, 0, api.ErrUnknown)
	drained(t, "the zero value", &zero, c, nil, 0)
}

// P10.3: a listener that is removed receives no further shots, and its channel is not closed.
func TestUnsubscribed(t *testing.T) {
	b := newBench(t, exampleSetup())
	c, other := subscribed(t, b, 9), subscribed(t, b, 9)
	b.Execute(exampleScript())
	isError(t, "Unsubscribe", b.Unsubscribe(c), api.OK)
	b.Execute(exampleScript())
	shots, lost, e := b.Drain(c)
	sameAt(t, "Drain", shots, lost, e, nil, 0, api.ErrUnknown)
	if s, isOpen := <-c; !isOpen || s.Number != 1 || len(c) != 1 {
		t.Errorf("the channel has %v first, and %d more shots", s, len(c))
	}
	<-c
	select {
	case s, isOpen := <-c:
		t.Errorf("an empty channel returns %v, %t", s, isOpen)
	default:
	}
	drained(t, "the other listener", b, other, []bench.Shot{{"a", 1, 3, 6, 12}, {"a", 2, 6, 9, 15}, {"a", 3, 9, 12, 18}, {"a", 4, 12, 15, 21}}, 0)
}

// P10.3: a script with an error, or that fails halfway, changes nothing.
func TestFailedExecutions(t *testing.T) {
	s := exampleSetup()
	s.Instruments = append(s.Instruments, bench.Instrument{Name: "b"})
	b := newBench(t, s)
	c := subscribed(t, b, 64)
	b.Execute([]bench.Command{arm("b"), wait(1)})
	start := []bench.Command{arm("a"), wait(5), trigger(), disarm("b")}
	for _, row := range []struct {
		l []bench.Command
		e api.Errno
	}{
		{append(start, bench.Command{Op: "x"}), api.ErrKind}, {append(start, end()), api.ErrShape}, {append(start, arm("x")), api.ErrUnknown}, {append(start, arm("a")), api.ErrState}, {append(start, disarm("b")), api.ErrState},
		{append(start, disarm("a"), trigger()), api.ErrState}, {append(start, repeated(10, repeated(100, trigger())...)...), api.ErrMany},
	} {
		n, e := b.Execute(row.l)
		same(t, "Execute "+referenceSource(row.l), n, e, 0, row.e)
		drained(t, "after an error", b, c, nil, 0)
	}
	n, e := b.Execute([]bench.Command{trigger(), arm("a"), trigger()})
	same(t, "Execute", n, e, 3, api.OK)
	drained(t, "the shots", b, c, []bench.Shot{{"b", 1, 1, -1, 5}, {"a", 1, 1, 4, 10}, {"b", 2, 1, -1, 5}}, 0)
}

// P10.3: the time of a bench does not exceed 999999999; only the shots of one execution are limited.
func TestLongBenches(t *testing.T) {
	b := newBench(t, exampleSetup())
	execute := func(shots int, wantedError api.Errno, parts ...[]bench.Command) {
		t.Helper()
		n, e := b.Execute(slices.Concat(parts...))
		same(t, "Execute", n, e, shots, wantedError)
	}
	// All waits of this script together take half of the time but for 10 millions.
	long := repeated(100, times(49, wait(100000))...)
	execute(0, api.OK, long)
	execute(0, api.OK, long)
	execute(980, api.OK, repeated(10, times(19, wait(100000))...), times(9, wait(100000)), []bench.Command{wait(99998), arm("a")}, repeated(10, repeated(98, trigger())...))
	for range 3 {
		execute(1000, api.OK, repeated(10, repeated(100, trigger())...))
	}
	c := subscribed(t, b, 3)
	execute(0, api.ErrRange, []bench.Command{trigger(), wait(2)})
	execute(0, api.ErrRange, []bench.Command{trigger(), wait(100000)})
	execute(2, api.OK, []bench.Command{trigger(), wait(1), trigger()})
	execute(0, api.ErrRange, []bench.Command{trigger(), wait(1)})
	execute(1, api.OK, []bench.Command{trigger()})
	drained(t, "the last shots", b, c, []bench.Shot{{"a", 3981, 999999998, 1000000001, 1000000007}, {"a", 3982, 999999999, 1000000002, 1000000008}, {"a", 3983, 999999999, 1000000002, 1000000008}}, 0)
}

// model is a listener of the reference: the shots in its buffer, and the number of lost ones.
type model struct {
	feed   bench.Feed
	buffer []bench.Shot
	lost   int
}

// P10.3: random calls have the results of the definition.
func TestBenches(t *testing.T) {
	r := source(5)
	found := map[string]int{}
	for range 300 {
		s := anySetup(r)
		s.Level = "0"
		b, reference := newBench(t, s), newReference(s)
		var listeners, gone []*model
		for range 60 {
			switch k := r.Intn(10); {
			case k < 2 && len(listeners) < 16:
				listeners = append(listeners, &model{feed: subscribed(t, b, 1+r.Intn(pick(r, 3, 64)))})
			case k == 2 && len(listeners) > 0:
				i := r.Intn(len(listeners))
				isError(t, "Unsubscribe", b.Unsubscribe(listeners[i].feed), api.OK)
				gone = append(gone, listeners[i])
				listeners = slices.Delete(listeners, i, i+1)
			case k == 3 && len(gone) > 0:
				x := pick(r, gone...)
				shots, lost, e := b.Drain(x.feed)
				sameAt(t, "Drain", shots, lost, e, nil, 0, api.ErrUnknown)
				isError(t, "Unsubscribe", b.Unsubscribe(x.feed), api.ErrUnknown)
			case k < 6 && len(listeners) > 0:
				x := pick(r, listeners...)
				if r.Intn(3) == 0 && len(x.buffer) > 0 {
					same(t, "a receive", <-x.feed, api.OK, x.buffer[0], api.OK)
					x.buffer = x.buffer[1:]
				}
				drained(t, "Drain", b, x.feed, x.buffer, x.lost)
				found[fmt.Sprint("lost: ", x.lost > 0)]++
				x.buffer, x.lost = nil, 0
			default:
				l := anyScript(r, names(len(s.Instruments)), 3)
				after, shots, wantedError := reference.execute(l)
				n, e := b.Execute(l)
				same(t, "Execute", n, e, len(shots), wantedError)
				found[fmt.Sprint("error: ", e != api.OK)]++
				reference = after
				for _, x := range listeners {
					room := min(len(shots), cap(x.feed)-len(x.buffer))
					x.buffer, x.lost = append(x.buffer, shots[:room]...), x.lost+len(shots)-room
				}
			}
		}
		for _, x := range append(listeners, gone...) {
			if len(x.feed) != len(x.buffer) {
				t.Errorf("a buffer has %d shots, not %d", len(x.feed), len(x.buffer))
			}
		}
	}
	decided(t, "the bench", found, "lost: true", "lost: false", "error: true", "error: false")
}

// P10.3: a listener that receives while scripts are executed has each shot that is not lost once, in order.
func TestConcurrentListeners(t *testing.T) {
	b := newBench(t, exampleSetup())
	c, done := subscribed(t, b, 3), make(chan bool)
	var received []bench.Shot
	var w sync.WaitGroup
	w.Go(func() {
		for {
			select {
			case s := <-c:
				received = append(received, s)
			case <-done:
				return
			}
		}
	})
	for range 200 {
		n, e := b.Execute(exampleScript())
		same(t, "Execute", n, e, 2, api.OK)
	}
	close(done)
	w.Wait()
	shots, lost, e := b.Drain(c)
	isError(t, "Drain", e, api.OK)
	received = append(received, shots...)
	if len(received)+lost != 400 {
		t.Errorf("%d shots were received and %d were lost", len(received), lost)
	}
	for i, s := range received {
		if i > 0 && s.Number <= received[i-1].Number || s.Time != 3*s.Number {
			t.Errorf("the shot %v is not after the others", s)
		}
	}
}
