package disk

import (
	"bytes"

	"wicket/api"
)

// Write lays bytes behind the log's file.
func (d *Disk) Write(b []byte) api.Errno {
	if !d.step() {
		return api.ErrNil
	}
	if len(b) > d.Room() {
		return api.ErrFull
	}
	d.log = append(d.log, b...)
	return api.OK
}

// Sync makes the file last.
func (d *Disk) Sync() api.Errno {
	if !d.step() {
		return api.ErrNil
	}
	d.sure = len(d.log)
	return api.OK
}

// Trim leaves the file's first bytes.
func (d *Disk) Trim(n int) api.Errno {
	if !d.step() {
		return api.ErrNil
	}
	if n < 0 || n > len(d.log) {
		return api.ErrArg
	}
	d.hold(d.log[:n], n)
	return api.OK
}

// Drop takes the file's first bytes away.
func (d *Disk) Drop(n int) api.Errno {
	if !d.step() {
		return api.ErrNil
	}
	if n < 0 || n > d.sure {
		return api.ErrArg
	}
	d.hold(d.log[n:], d.sure-n)
	return api.OK
}

// Put lays a snapshot into the spare place.
func (d *Disk) Put(b []byte) api.Errno {
	if !d.step() {
		return api.ErrNil
	}
	d.places[d.spare()] = holding(b)
	return api.OK
}

// Switch makes the spare place's one the last one.
func (d *Disk) Switch() api.Errno {
	if !d.step() {
		return api.ErrNil
	}
	if !d.places[d.spare()].has {
		return api.ErrNone
	}
	d.last = d.spare()
	return api.OK
}

// step counts a step that is asked for, ahead of what may refuse it: refused ones count too.
func (d *Disk) step() bool {
	if !d.there() {
		return false
	}
	d.steps++
	return true
}

// hold makes these bytes the file's, by a copy, so that what is cut off is not held in memory any longer.
func (d *Disk) hold(log []byte, sure int) {
	d.log, d.sure = bytes.Clone(log), sure
}
