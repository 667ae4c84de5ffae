package bench

import (
	"strobe/api"
	"strobe/common"
)

// name returns the name of a device.
func (d Device) name() string {
	return d.Name
}

// name returns the name of a frame.
func (f Frame) name() string {
	return f.Name
}

// after returns the register after an event that is not an undo, or the error with which the event is not accepted.
func (r Register) after(event api.Event) (Register, api.Errno) {
	day := event.Values[0]
	if e := common.FirstError(common.InRange(day, 0, MaxDay), common.ErrorIf(day < r.Day, api.ErrState)); e != api.OK {
		return r, e
	}
	changed, e := kinds()[event.Kind].effect(r, event)
	changed.Day = day
	return changed, e
}

// add adds a device.
func (r Register) add(event api.Event) (Register, api.Errno) {
	name, delay := event.Names[0], event.Values[1]
	if e := common.FirstError(
		common.ErrorIf(r.device(name) >= 0, api.ErrTwice),
		common.ErrorIf(len(r.Devices) >= MaxInstruments, api.ErrMany),
		common.InRange(delay, 0, MaxDelay)); e != api.OK {
		return r, e
	}
	r.Devices = with(r.Devices, Device{Name: name, Delay: delay})
	return r, api.OK
}

// device returns the index of the device with a name, or -1 if there is none.
func (r Register) device(name string) int {
	return indexOf(r.Devices, name, Device.name)
}

// inUse returns the index of a device that is not retired.
func (r Register) inUse(name string) (int, api.Errno) {
	i := r.device(name)
	if i < 0 {
		return 0, api.ErrUnknown
	}
	return i, common.ErrorIf(r.Devices[i].Retired, api.ErrOver)
}

// calibrate changes the delay of a device.
func (r Register) calibrate(event api.Event) (Register, api.Errno) {
	name, delay := event.Names[0], event.Values[1]
	i, e := r.inUse(name)
	if e := common.FirstError(e, common.InRange(delay, 0, MaxDelay)); e != api.OK {
		return r, e
	}
	r.Devices = replaced(r.Devices, i, Device{Name: name, Delay: delay})
	return r, api.OK
}

// retire retires a device.
func (r Register) retire(event api.Event) (Register, api.Errno) {
	i, e := r.inUse(event.Names[0])
	if e != api.OK {
		return r, e
	}
	d := r.Devices[i]
	d.Retired = true
	r.Devices = replaced(r.Devices, i, d)
	return r, api.OK
}

// frame adds a frame.
func (r Register) frame(event api.Event) (Register, api.Errno) {
	name, pre, post := event.Names[0], event.Values[1], event.Values[2]
	if e := common.FirstError(
		common.ErrorIf(indexOf(r.Frames, name, Frame.name) >= 0, api.ErrTwice),
		common.ErrorIf(len(r.Frames) >= MaxFrames, api.ErrMany),
		common.InRange(pre, 0, api.MaxSamples),
		common.InRange(post, 0, api.MaxSamples)); e != api.OK {
		return r, e
	}
	r.Frames = with(r.Frames, Frame{name, pre, post})
	return r, api.OK
}

// run executes a script with all devices that are not retired.
func (r Register) run(event api.Event) (Register, api.Errno) {
	i := indexOf(r.Frames, event.Names[0], Frame.name)
	if i < 0 {
		return r, api.ErrUnknown
	}
	// CheckEvent has found that the text is the source of a script.
	script, _, _ := ParseScript(event.Text)
	shots, e := Shots(r.setup(r.Frames[i]), script)
	if e != api.OK {
		return r, e
	}
	r.Runs = with(r.Runs, Run{event.Names[0], event.Values[0], len(shots)})
	return r, api.OK
}

// setup returns the set-up of a frame with all devices that are not retired.
func (r Register) setup(f Frame) Setup {
	s := Setup{Name: f.Name, Pre: f.Pre, Post: f.Post, Level: "0"}
	for _, d := range r.Devices {
		if !d.Retired {
			s.Instruments = append(s.Instruments, Instrument{d.Name, d.Delay})
		}
	}
	return s
}
