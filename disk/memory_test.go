package disk_test

import (
	"testing"

	"wicket/disk"
)

// spoil writes over bytes, and over the spare room behind them.
func spoil(b []byte) {
	b = b[:cap(b)]
	for i := range b {
		b[i] = '!'
	}
}

// room is bytes with spare room behind them.
func room(text string) []byte {
	return []byte(text + "....")[:len(text)]
}

func wantRoom(t *testing.T, what string, b []byte, text string) {
	t.Helper()
	if got := string(b[:len(text)+4]); got != text+"...." || len(b) != len(text) {
		t.Errorf("%s: what was handed in is %q now", what, got)
	}
}

// What is handed in is not kept: what becomes of it later, spare room included, is not to be seen.
func TestHandedInIsNotKept(t *testing.T) {
	log, first, second, more, put := room("ab"), room("s"), room("r"), room("c"), room("t")
	l := [][]byte{first, second}
	d, _ := disk.Of(9, log, l...)
	l[0], l[1] = nil, nil
	d.Write(more)
	for _, b := range [][]byte{log, first, second, more} {
		spoil(b)
	}
	wantSeen(t, "behind Of and Write", d, seen{log: "abc", sure: 2, room: 6, snapshot: "s", has: true, spare: "r", spareHas: true, steps: 1})
	d.Put(put)
	spoil(put)
	wantSeen(t, "behind Put", d, seen{log: "abc", sure: 2, room: 6, snapshot: "s", has: true, spare: "t", spareHas: true, steps: 2})

	empty := fresh(t, 9)
	first = room("ab")
	empty.Write(first)
	spoil(first)
	wantSeen(t, "behind a first Write", empty, seen{log: "ab", room: 7, steps: 1})
}

// What is handed in is not changed, spare room included, by whatever is done later.
func TestHandedInIsNotChanged(t *testing.T) {
	log, first, second, more, put := room("ab"), room("s"), room("r"), room("c"), room("t")
	l := append(make([][]byte, 0, 3), first, second)
	d, _ := disk.Of(9, log, l...)
	d.Write(more)
	d.Write([]byte("def"))
	d.Put(put)
	d.Switch()
	d.Put([]byte("xyz"))
	d.Sync()
	d.Drop(1)
	d.Write([]byte("gh"))
	d.Trim(1)
	d.Write([]byte("ij"))
	spoil(d.Log())
	wantRoom(t, "log", log, "ab")
	wantRoom(t, "first snapshot", first, "s")
	wantRoom(t, "second snapshot", second, "r")
	wantRoom(t, "Write", more, "c")
	wantRoom(t, "Put", put, "t")
	if len(l) != 2 || string(l[0]) != "s" || string(l[1]) != "r" || l[:3][2] != nil {
		t.Errorf("the list of snapshots is %q now", l[:3])
	}
}

// What is told is the caller's: neither the disk, nor another answer, nor another disk has part of it.
func TestToldIsTheCallers(t *testing.T) {
	d := of(t, 9, "ab", "sss", "rrr")
	d.Write([]byte("cde"))
	want := see(d)
	look := func(d *disk.Disk) [][]byte {
		snapshot, _ := d.Snapshot()
		spare, _ := d.Spare()
		return [][]byte{d.Log(), snapshot, spare}
	}
	other, stopped := d.Copy(), d.Stop(2)
	stoppedWant := see(stopped)
	kept := look(d)
	for _, b := range append(append(look(d), look(other)...), look(stopped)...) {
		spoil(b)
	}
	wantSeen(t, "the disk", d, want)
	wantSeen(t, "its copy", other, want)
	wantSeen(t, "what a stop left", stopped, stoppedWant)
	if string(kept[0]) != want.log || string(kept[1]) != want.snapshot || string(kept[2]) != want.spare {
		t.Errorf("other answers are %q now", kept)
	}
	d.Write([]byte("f"))
	d.Put([]byte("ttt"))
	d.Switch()
	d.Put([]byte("uuu"))
	d.Sync()
	d.Drop(3)
	d.Trim(1)
	d.Write([]byte("xyz"))
	if string(kept[0]) != want.log || string(kept[1]) != want.snapshot || string(kept[2]) != want.spare {
		t.Errorf("answers are %q behind later steps", kept)
	}
}

// Answers' spare room behind steps that cut the file is the caller's, too.
func TestToldBehindCuts(t *testing.T) {
	d := of(t, 9, "abcdefg")
	d.Trim(5)
	spoil(d.Log())
	d.Write([]byte("x"))
	d.Drop(2)
	spoil(d.Log())
	spoil(d.Stop(0).Log())
	d.Write([]byte("y"))
	spoil(d.Copy().Log())
	wantSeen(t, "cut", d, seen{log: "cdexy", sure: 3, room: 4, steps: 4})
}
