package disk_test

import (
	"math"
	"testing"

	"wicket/api"
)

// P3.2: Write lays bytes behind the others, wholly or not, and none of them last yet.
func TestWrite(t *testing.T) {
	d := of(t, 6, "ab")
	wantErrno(t, "Write", d.Write([]byte("c")), api.OK)
	wantSeen(t, "behind what lasts", d, seen{log: "abc", sure: 2, room: 3, steps: 1})
	wantErrno(t, "Write of too many", d.Write([]byte("defg")), api.ErrFull)
	wantSeen(t, "nothing of it stands", d, seen{log: "abc", sure: 2, room: 3, steps: 2})
	wantErrno(t, "Write of nothing", d.Write(nil), api.OK)
	wantErrno(t, "Write up to the end", d.Write([]byte("def")), api.OK)
	wantSeen(t, "full", d, seen{log: "abcdef", sure: 2, steps: 4})
	wantErrno(t, "Write to a full file", d.Write([]byte("g")), api.ErrFull)
	wantErrno(t, "Write of nothing to a full file", d.Write(nil), api.OK)
	wantErrno(t, "Write of nothing to a full file", d.Write([]byte{}), api.OK)
	wantSeen(t, "as it was", d, seen{log: "abcdef", sure: 2, steps: 7})
}

// P3.2: Sync.
func TestSync(t *testing.T) {
	d := fresh(t, 6)
	wantErrno(t, "Sync of nothing", d.Sync(), api.OK)
	wantSeen(t, "nothing lasts", d, seen{room: 6, steps: 1})
	d.Write([]byte("ab"))
	d.Write([]byte("c"))
	wantErrno(t, "Sync", d.Sync(), api.OK)
	wantSeen(t, "all last", d, seen{log: "abc", sure: 3, room: 3, steps: 4})
	wantErrno(t, "Sync once more", d.Sync(), api.OK)
	d.Write([]byte("d"))
	wantSeen(t, "one does not last", d, seen{log: "abcd", sure: 3, room: 2, steps: 6})
	wantErrno(t, "Sync", d.Sync(), api.OK)
	wantSeen(t, "all last", d, seen{log: "abcd", sure: 4, room: 2, steps: 7})
}

// P3.2: Trim, at 0, at all, between, within and behind what lasts: what it leaves lasts.
func TestTrim(t *testing.T) {
	for n := range 5 {
		d := of(t, 6, "ab", "s")
		d.Write([]byte("cd"))
		wantErrno(t, "Trim", d.Trim(n), api.OK)
		left := "abcd"[:n]
		wantSeen(t, "trimmed", d, seen{log: left, sure: n, room: 6 - n, snapshot: "s", has: true, steps: 2})
		wantSeen(t, "and stopped", d.Stop(0), seen{log: left, sure: n, room: 6 - n, snapshot: "s", has: true})
		wantErrno(t, "Write", d.Write([]byte("x")), api.OK)
		wantSeen(t, "and written to", d, seen{log: left + "x", sure: n, room: 5 - n, snapshot: "s", has: true, steps: 3})
	}
	empty := fresh(t, 6)
	wantErrno(t, "Trim(0) of nothing", empty.Trim(0), api.OK)
	wantErrno(t, "Trim(1) of nothing", empty.Trim(1), api.ErrArg)
	wantSeen(t, "nothing", empty, seen{room: 6, steps: 2})
}

// P3.2: Trim below 0, and above how many bytes there are: nothing changes but that a step was done.
func TestTrimRefused(t *testing.T) {
	for _, n := range []int{math.MinInt, math.MinInt32, -6, -1, 5, 6, 7, math.MaxInt32, math.MaxInt} {
		d := of(t, 6, "ab", "s")
		d.Write([]byte("cd"))
		wantErrno(t, "Trim", d.Trim(n), api.ErrArg)
		wantSeen(t, "as it was", d, seen{log: "abcd", sure: 2, room: 2, snapshot: "s", has: true, steps: 2})
	}
}

// P3.2: Drop, at 0, at all that last, between: of the others those last that lasted.
func TestDrop(t *testing.T) {
	for n := range 4 {
		d := of(t, 6, "abc", "s")
		d.Write([]byte("de"))
		wantErrno(t, "Drop", d.Drop(n), api.OK)
		left := "abcde"[n:]
		wantSeen(t, "dropped", d, seen{log: left, sure: 3 - n, room: 1 + n, snapshot: "s", has: true, steps: 2})
		wantSeen(t, "and stopped", d.Stop(0), seen{log: "abc"[n:], sure: 3 - n, room: 3 + n, snapshot: "s", has: true})
		wantErrno(t, "Write", d.Write([]byte("x")), api.OK)
		wantSeen(t, "and written to", d, seen{log: left + "x", sure: 3 - n, room: n, snapshot: "s", has: true, steps: 3})
	}
	all := of(t, 6, "abc")
	wantErrno(t, "Drop of all", all.Drop(3), api.OK)
	wantSeen(t, "nothing", all, seen{room: 6, steps: 1})
	wantErrno(t, "Drop(0) of nothing", all.Drop(0), api.OK)
	wantErrno(t, "Drop(1) of nothing", all.Drop(1), api.ErrArg)
	wantSeen(t, "nothing", all, seen{room: 6, steps: 3})
}

// P3.2: Drop below 0, and above how many last, even where there are as many bytes.
func TestDropRefused(t *testing.T) {
	for _, n := range []int{math.MinInt, math.MinInt32, -6, -1, 4, 5, 6, 7, math.MaxInt32, math.MaxInt} {
		d := of(t, 6, "abc", "s")
		d.Write([]byte("de"))
		wantErrno(t, "Drop", d.Drop(n), api.ErrArg)
		wantSeen(t, "as it was", d, seen{log: "abcde", sure: 3, room: 1, snapshot: "s", has: true, steps: 2})
	}
	written := fresh(t, 6)
	written.Write([]byte("ab"))
	wantErrno(t, "Drop of what does not last", written.Drop(1), api.ErrArg)
	wantErrno(t, "Drop(0)", written.Drop(0), api.OK)
	wantSeen(t, "as it was", written, seen{log: "ab", room: 4, steps: 3})
}

// P3.3: each Put goes into the spare place, over what was there; Switch changes the places.
func TestPutAndSwitch(t *testing.T) {
	d := fresh(t, 6)
	wantErrno(t, "Switch without one", d.Switch(), api.ErrNone)
	wantSeen(t, "none", d, seen{room: 6, steps: 1})
	d.Put([]byte("a"))
	wantErrno(t, "Put over it", d.Put([]byte("bb")), api.OK)
	wantSeen(t, "put", d, seen{room: 6, spare: "bb", spareHas: true, steps: 3})
	wantErrno(t, "Switch", d.Switch(), api.OK)
	wantSeen(t, "switched", d, seen{room: 6, snapshot: "bb", has: true, steps: 4})
	wantErrno(t, "Switch to the empty second place", d.Switch(), api.ErrNone)
	wantSeen(t, "as it was", d, seen{room: 6, snapshot: "bb", has: true, steps: 5})
	d.Put([]byte("c"))
	d.Put([]byte("d"))
	wantSeen(t, "put", d, seen{room: 6, snapshot: "bb", has: true, spare: "d", spareHas: true, steps: 7})
	wantErrno(t, "Switch", d.Switch(), api.OK)
	wantErrno(t, "Switch back", d.Switch(), api.OK)
	wantErrno(t, "Switch again", d.Switch(), api.OK)
	wantSeen(t, "switched thrice", d, seen{room: 6, snapshot: "d", has: true, spare: "bb", spareHas: true, steps: 10})
	wantErrno(t, "Put over the elder one", d.Put([]byte("e")), api.OK)
	wantSeen(t, "put", d, seen{room: 6, snapshot: "d", has: true, spare: "e", spareHas: true, steps: 11})
}

// P3.3: a snapshot of no bytes is put and switched to as any other one.
func TestPutOfNoBytes(t *testing.T) {
	for _, nothing := range [][]byte{nil, {}} {
		d := fresh(t, 6)
		wantErrno(t, "Put", d.Put(nothing), api.OK)
		wantSeen(t, "put", d, seen{room: 6, spareHas: true, steps: 1})
		wantErrno(t, "Switch", d.Switch(), api.OK)
		wantSeen(t, "switched", d, seen{room: 6, has: true, steps: 2})
		d.Put([]byte("a"))
		wantErrno(t, "Switch", d.Switch(), api.OK)
		wantErrno(t, "Put over a text", d.Put(nothing), api.OK)
		wantSeen(t, "put", d, seen{room: 6, snapshot: "a", has: true, spareHas: true, steps: 5})
		wantErrno(t, "Switch", d.Switch(), api.OK)
		wantSeen(t, "switched", d, seen{room: 6, has: true, spare: "a", spareHas: true, steps: 6})
	}
}

// P3.3: snapshots last at once, take no room of the file, and have no bound of their own.
func TestSnapshotsAndTheFile(t *testing.T) {
	d := fresh(t, 1)
	d.Write([]byte("a"))
	great := string(make([]byte, api.MaxLog+1))
	wantErrno(t, "Put of a great one", d.Put([]byte(great)), api.OK)
	wantSeen(t, "put", d, seen{log: "a", spare: great, spareHas: true, steps: 2})
	wantSeen(t, "and stopped", d.Stop(0), seen{room: 1, spare: great, spareHas: true})
	wantErrno(t, "Switch", d.Switch(), api.OK)
	wantSeen(t, "switched, and stopped", d.Stop(-1), seen{room: 1, snapshot: great, has: true})
}
