package disk

import "bytes"

// Log is the file's bytes.
func (d *Disk) Log() []byte {
	if !d.there() {
		return nil
	}
	return bytes.Clone(d.log)
}

// Sure is how many of them last.
func (d *Disk) Sure() int {
	if !d.there() {
		return 0
	}
	return d.sure
}

// Room is how many more may be written; Of may have made a file beyond its capacity.
func (d *Disk) Room() int {
	if !d.there() {
		return 0
	}
	return max(d.capacity-len(d.log), 0)
}

// Snapshot is the last one.
func (d *Disk) Snapshot() ([]byte, bool) {
	if !d.there() {
		return nil, false
	}
	return d.at(d.last)
}

// Spare is what the spare place has.
func (d *Disk) Spare() ([]byte, bool) {
	if !d.there() {
		return nil, false
	}
	return d.at(d.spare())
}

// Steps is how many were done.
func (d *Disk) Steps() int {
	if !d.there() {
		return 0
	}
	return d.steps
}

// at tells what a place has.
func (d *Disk) at(i int) ([]byte, bool) {
	p := d.places[i]
	return bytes.Clone(p.body), p.has
}
