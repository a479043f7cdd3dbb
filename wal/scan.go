package wal

import (
	"iter"

	"wicket/api"
	"wicket/command"
	"wicket/disk"
	"wicket/frame"
	"wicket/wire"
)

// record is an entry with where its record begins, and where it ends.
type record struct {
	from, to int
	entry    api.Entry
}

// Entries are those with which b begins, how far they go, and why what stands behind them is no frame.
func Entries(b []byte) (api.Logged, api.Errno) {
	told := api.Logged{Size: len(b)}
	for r, e := range records(b) {
		if e != api.OK {
			return api.Logged{}, e
		}
		told.Entries = append(told.Entries, r.entry)
		told.Good = r.to
	}
	_, _, told.Why = frame.Scan(b[told.Good:])
	return told, api.OK
}

// Scan are those of a disk's log.
func Scan(d *disk.Disk) (api.Logged, api.Errno) {
	if absent(d) {
		return api.Logged{}, api.ErrNil
	}
	return Entries(d.Log())
}

// All goes over the entries of b as it is now, each with the place of its record, up to the first that is none.
func All(b []byte) iter.Seq2[int, api.Entry] {
	all := records(b)
	return func(yield func(int, api.Entry) bool) {
		for r, e := range all {
			if e != api.OK || !yield(r.from, r.entry) {
				return
			}
		}
	}
}

// records goes over the records of b as it is now. A whole frame that is none, or whose number does not follow, is told as
// ErrCorrupt, and ends it.
func records(b []byte) iter.Seq2[record, api.Errno] {
	frames := frame.All(b)
	return func(yield func(record, api.Errno) bool) {
		var last int64 // 0, which no entry has, ahead of the first one
		for place, f := range frames {
			entry, ok := read(f)
			if !ok || last > 0 && entry.Number != last+1 {
				yield(record{}, api.ErrCorrupt)
				return
			}
			if !yield(record{from: place, to: place + frame.Size(f.Body), entry: entry}, api.OK) {
				return
			}
			last = entry.Number
		}
	}
}

// read is the entry whose record the frame is, if it is one.
func read(f api.Frame) (api.Entry, bool) {
	r := wire.Open(f.Body)
	n, ok := number(r.Number)
	if !ok || f.Kind != kind {
		return api.Entry{}, false
	}
	c, e := command.Read(f.Body[len(f.Body)-r.Left():])
	if e != api.OK {
		return api.Entry{}, false
	}
	return api.Entry{Number: n, Command: c}, true
}

// number is the next number, if it is one that an entry may have; asked ahead of its being made an int64, which has not
// room for each one.
func number(next func() (uint64, api.Errno)) (int64, bool) {
	n, e := next()
	if e != api.OK || n < 1 || n > mostNumber {
		return 0, false
	}
	return int64(n), true
}
