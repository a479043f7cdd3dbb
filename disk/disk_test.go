package disk_test

import (
	"bytes"
	"fmt"
	"math"
	"testing"

	"wicket/api"
	"wicket/disk"
)

// seen is all that can be seen of a disk, lists as texts, so that it can be held against another one.
type seen struct {
	log        string
	sure, room int
	snapshot   string
	has        bool
	spare      string
	spareHas   bool
	steps      int
}

// String tells only the first bytes of long texts.
func (s seen) String() string {
	return fmt.Sprintf("log %.40q of %d, %d last, room for %d, snapshot %.40q %t, spare %.40q %t, %d steps",
		s.log, len(s.log), s.sure, s.room, s.snapshot, s.has, s.spare, s.spareHas, s.steps)
}

func see(d *disk.Disk) seen {
	snapshot, has := d.Snapshot()
	spare, spareHas := d.Spare()
	return seen{
		log: string(d.Log()), sure: d.Sure(), room: d.Room(),
		snapshot: string(snapshot), has: has, spare: string(spare), spareHas: spareHas,
		steps: d.Steps(),
	}
}

func wantSeen(t *testing.T, what string, d *disk.Disk, want seen) {
	t.Helper()
	if got := see(d); d == nil || got != want {
		t.Errorf("%s: %v, want %v", what, got, want)
	}
}

func wantErrno(t *testing.T, what string, got, want api.Errno) {
	t.Helper()
	if got != want {
		t.Errorf("%s: %v, want %v", what, got, want)
	}
}

// wantRefused: a disk that was not made.
func wantRefused(t *testing.T, what string, d *disk.Disk, e api.Errno) {
	t.Helper()
	if d != nil || e != api.ErrArg {
		t.Errorf("%s: a disk %t, %v; want none, %v", what, d != nil, e, api.ErrArg)
	}
}

func fresh(t *testing.T, capacity int) *disk.Disk {
	t.Helper()
	d, e := disk.New(capacity)
	if d == nil || e != api.OK {
		t.Fatalf("New(%d): a disk %t, %v", capacity, d != nil, e)
	}
	return d
}

func of(t *testing.T, capacity int, log string, snapshot ...string) *disk.Disk {
	t.Helper()
	var l [][]byte
	for _, s := range snapshot {
		l = append(l, []byte(s))
	}
	d, e := disk.Of(capacity, []byte(log), l...)
	if d == nil || e != api.OK {
		t.Fatalf("Of(%d, %.40q, %.40q): a disk %t, %v", capacity, log, snapshot, d != nil, e)
	}
	return d
}

// The chapter's examples, row by row, on one disk.
func TestExamples(t *testing.T) {
	none, e := disk.New(0)
	wantRefused(t, "New(0)", none, e)
	d := fresh(t, 6)
	wantErrno(t, "Write(1 2 3)", d.Write([]byte{1, 2, 3}), api.OK)
	wantErrno(t, "Write(4 5 6 7)", d.Write([]byte{4, 5, 6, 7}), api.ErrFull)
	wantSeen(t, "row 1", d, seen{log: "\x01\x02\x03", room: 3, steps: 2})

	wantSeen(t, "Stop(2)", d.Stop(2), seen{log: "\x01\x02", sure: 2, room: 4})
	wantErrno(t, "Sync", d.Sync(), api.OK)
	wantErrno(t, "Write(9)", d.Write([]byte{9}), api.OK)
	wantSeen(t, "Stop(0)", d.Stop(0), seen{log: "\x01\x02\x03", sure: 3, room: 3})

	wantErrno(t, "Drop(4)", d.Drop(4), api.ErrArg)
	wantErrno(t, "Drop(2)", d.Drop(2), api.OK)
	wantSeen(t, "dropped", d, seen{log: "\x03\x09", sure: 1, room: 4, steps: 6})
	wantErrno(t, "Trim(1)", d.Trim(1), api.OK)
	wantSeen(t, "trimmed", d, seen{log: "\x03", sure: 1, room: 5, steps: 7})

	wantErrno(t, "Switch", d.Switch(), api.ErrNone)
	wantErrno(t, "Put(7)", d.Put([]byte{7}), api.OK)
	wantSeen(t, "put", d, seen{log: "\x03", sure: 1, room: 5, spare: "\x07", spareHas: true, steps: 9})
	wantErrno(t, "Switch", d.Switch(), api.OK)
	wantSeen(t, "switched", d, seen{log: "\x03", sure: 1, room: 5, snapshot: "\x07", has: true, steps: 10})

	wantErrno(t, "Put(8)", d.Put([]byte{8}), api.OK)
	wantErrno(t, "Switch", d.Switch(), api.OK)
	wantSeen(t, "row 5", d, seen{log: "\x03", sure: 1, room: 5, snapshot: "\x08", has: true, spare: "\x07", spareHas: true, steps: 12})
}

// P3.1: capacities, at both edges and beyond them.
func TestCapacities(t *testing.T) {
	for _, capacity := range []int{math.MinInt, math.MinInt32, -api.MaxLog, -1, 0, api.MaxLog + 1, math.MaxInt32, math.MaxInt - 1, math.MaxInt} {
		d, e := disk.New(capacity)
		wantRefused(t, "New", d, e)
		d, e = disk.Of(capacity, nil)
		wantRefused(t, "Of", d, e)
		d, e = disk.Of(capacity, []byte("ab"), []byte("c"), []byte("d"))
		wantRefused(t, "Of", d, e)
		d, e = disk.Of(capacity, nil, nil, nil, nil)
		wantRefused(t, "Of with three snapshots", d, e)
	}
	for _, capacity := range []int{1, 2, 6, api.MaxLog - 1, api.MaxLog} {
		wantSeen(t, "New", fresh(t, capacity), seen{room: capacity})
		wantSeen(t, "Of nothing", of(t, capacity, ""), seen{room: capacity})
	}
}

// P3.1, P3.2: a file of each capacity can be filled just to its end.
func TestFilled(t *testing.T) {
	for _, capacity := range []int{1, 2, api.MaxLog - 1, api.MaxLog} {
		all := bytes.Repeat([]byte("x"), capacity+1)
		d := fresh(t, capacity)
		wantErrno(t, "Write of one too many", d.Write(all), api.ErrFull)
		wantSeen(t, "refused", d, seen{room: capacity, steps: 1})
		wantErrno(t, "Write of all", d.Write(all[1:]), api.OK)
		wantSeen(t, "full", d, seen{log: string(all[1:]), steps: 2})
		wantErrno(t, "Write of one more", d.Write([]byte("y")), api.ErrFull)
		wantErrno(t, "Write of nothing", d.Write([]byte{}), api.OK)
		wantErrno(t, "Write of nil", d.Write(nil), api.OK)
		wantSeen(t, "still full", d, seen{log: string(all[1:]), steps: 5})
	}
}

// P3.1: none, one, two and three snapshots.
func TestOfSnapshots(t *testing.T) {
	wantSeen(t, "none", of(t, 6, "ab"), seen{log: "ab", sure: 2, room: 4})
	wantSeen(t, "one", of(t, 6, "ab", "s"), seen{log: "ab", sure: 2, room: 4, snapshot: "s", has: true})
	wantSeen(t, "two", of(t, 6, "ab", "s", "r"), seen{log: "ab", sure: 2, room: 4, snapshot: "s", has: true, spare: "r", spareHas: true})
	for _, l := range [][][]byte{{{1}, {2}, {3}}, {nil, nil, nil}, {{1}, {2}, {}}, {nil, {}, nil, {4}}, make([][]byte, 1000)} {
		d, e := disk.Of(6, []byte("ab"), l...)
		wantRefused(t, "three or more", d, e)
	}
	var none [][]byte
	for _, l := range [][][]byte{none, {}} {
		d, e := disk.Of(6, nil, l...)
		wantErrno(t, "Of with a list of none", e, api.OK)
		wantSeen(t, "a list of none", d, seen{room: 6})
	}
}

// P3.1: a snapshot of no bytes is one all the same.
func TestOfSnapshotsOfNoBytes(t *testing.T) {
	for _, nothing := range [][]byte{nil, {}} {
		one, e := disk.Of(6, nothing, nothing)
		wantErrno(t, "Of with one", e, api.OK)
		wantSeen(t, "one", one, seen{room: 6, has: true})
		two, e := disk.Of(6, nothing, nothing, nothing)
		wantErrno(t, "Of with two", e, api.OK)
		wantSeen(t, "two", two, seen{room: 6, has: true, spareHas: true})
		first, e := disk.Of(6, nothing, nothing, []byte("r"))
		wantErrno(t, "Of with two", e, api.OK)
		wantSeen(t, "the last one without bytes", first, seen{room: 6, has: true, spare: "r", spareHas: true})
		second, e := disk.Of(6, nothing, []byte("s"), nothing)
		wantErrno(t, "Of with two", e, api.OK)
		wantSeen(t, "the spare one without bytes", second, seen{room: 6, snapshot: "s", has: true, spareHas: true})
	}
}

// P3.1: what stands in the two places goes on from there as if it had been put and switched to.
func TestOfGoesOn(t *testing.T) {
	one := of(t, 6, "", "s")
	wantErrno(t, "Switch with an empty spare place", one.Switch(), api.ErrNone)
	wantErrno(t, "Put", one.Put([]byte("t")), api.OK)
	wantSeen(t, "one and a spare one", one, seen{room: 6, snapshot: "s", has: true, spare: "t", spareHas: true, steps: 2})
	wantErrno(t, "Switch", one.Switch(), api.OK)
	wantSeen(t, "switched", one, seen{room: 6, snapshot: "t", has: true, spare: "s", spareHas: true, steps: 3})

	two := of(t, 6, "", "s", "r")
	wantErrno(t, "Switch", two.Switch(), api.OK)
	wantSeen(t, "switched to the spare one", two, seen{room: 6, snapshot: "r", has: true, spare: "s", spareHas: true, steps: 1})
	wantErrno(t, "Switch", two.Switch(), api.OK)
	wantSeen(t, "switched back", two, seen{room: 6, snapshot: "s", has: true, spare: "r", spareHas: true, steps: 2})
}

// P3.1: a log of just the capacity, and more bytes than it, than MaxLog too; all of them last.
func TestOfBeyondTheCapacity(t *testing.T) {
	wantSeen(t, "just full", of(t, 3, "abc"), seen{log: "abc", sure: 3})
	d := of(t, 3, "abcde", "s")
	wantSeen(t, "beyond", d, seen{log: "abcde", sure: 5, snapshot: "s", has: true})
	wantSeen(t, "its Stop", d.Stop(0), seen{log: "abcde", sure: 5, snapshot: "s", has: true})
	wantErrno(t, "Write of nothing", d.Write(nil), api.OK)
	wantErrno(t, "Write", d.Write([]byte("x")), api.ErrFull)
	wantErrno(t, "Drop", d.Drop(2), api.OK)
	wantErrno(t, "Write to a full file", d.Write([]byte("x")), api.ErrFull)
	wantErrno(t, "Drop", d.Drop(1), api.OK)
	wantErrno(t, "Write of two", d.Write([]byte("xy")), api.ErrFull)
	wantErrno(t, "Write of one", d.Write([]byte("x")), api.OK)
	wantSeen(t, "back within it", d, seen{log: "dex", sure: 2, snapshot: "s", has: true, steps: 7})

	long := string(bytes.Repeat([]byte("z"), api.MaxLog+1))
	wantSeen(t, "beyond MaxLog", of(t, api.MaxLog, long), seen{log: long, sure: api.MaxLog + 1})
	trimmed := of(t, 1, "abc")
	wantErrno(t, "Trim", trimmed.Trim(2), api.OK)
	wantSeen(t, "still beyond", trimmed, seen{log: "ab", sure: 2, steps: 1})
}
