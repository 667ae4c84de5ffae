package bench

import (
	"slices"

	"strobe/api"
	"strobe/common"
)

// Bench executes scripts and delivers their shots to listeners. The zero value has no instruments.
type Bench struct {
	state     execution
	listeners []listener
}

// listener has the sending side of a channel, and the number of shots for which it had no room since it was drained.
type listener struct {
	feed chan Shot
	lost int
}

// New returns a bench with a set-up, without listeners.
func New(s Setup) (*Bench, api.Errno) {
	if e := CheckSetup(s); e != api.OK {
		return nil, e
	}
	return &Bench{state: start(s)}, api.OK
}

// Subscribe adds a listener, and returns its channel.
func (b *Bench) Subscribe(capacity int) (Feed, api.Errno) {
	if b == nil {
		return nil, api.ErrState
	}
	if e := common.FirstError(common.InRange(capacity, 1, MaxBuffer), common.ErrorIf(len(b.listeners) >= MaxListeners, api.ErrMany)); e != api.OK {
		return nil, e
	}
	feed := make(chan Shot, capacity)
	b.listeners = with(b.listeners, listener{feed: feed})
	return feed, api.OK
}

// Unsubscribe removes the listener with a channel.
func (b *Bench) Unsubscribe(c Feed) api.Errno {
	i, e := b.find(c)
	if e != api.OK {
		return e
	}
	b.listeners = without(b.listeners, i)
	return api.OK
}

// find returns the index of the listener with a channel.
func (b *Bench) find(c Feed) (int, api.Errno) {
	if b == nil {
		return 0, api.ErrState
	}
	i := slices.IndexFunc(b.listeners, func(x listener) bool { return x.feed == c })
	return i, common.ErrorIf(i < 0, api.ErrUnknown)
}

// Execute executes a script, and returns the number of its shots.
func (b *Bench) Execute(l []Command) (int, api.Errno) {
	if b == nil {
		return 0, api.ErrState
	}
	if e := CheckScript(l); e != api.OK {
		return 0, e
	}
	// A script that fails halfway must change nothing.
	next := b.state.copied()
	if e := next.run(l); e != api.OK {
		return 0, e
	}
	shots := next.shots
	next.shots = nil
	b.state = next
	for i := range b.listeners {
		b.listeners[i].deliver(shots)
	}
	return len(shots), api.OK
}

// deliver puts shots into the buffer of a listener, and counts those for which there is no room.
func (x *listener) deliver(shots []Shot) {
	for _, s := range shots {
		select {
		case x.feed <- s:
		default:
			x.lost++
		}
	}
}

// Drain returns the shots in the buffer of a listener, and the number of lost ones.
func (b *Bench) Drain(c Feed) ([]Shot, int, api.Errno) {
	i, e := b.find(c)
	if e != api.OK {
		return nil, 0, e
	}
	lost := b.listeners[i].lost
	b.listeners[i].lost = 0
	return drained(c), lost, api.OK
}

// drained takes all shots out of a buffer.
func drained(c Feed) []Shot {
	var shots []Shot
	for {
		select {
		case s := <-c:
			shots = append(shots, s)
		default:
			return shots
		}
	}
}
