package disk_test

import (
	"math"
	"testing"

	"wicket/api"
	"wicket/disk"
)

// P3.5: what lasts and the first keep of the others; below 0 none of them, beyond them all.
func TestStop(t *testing.T) {
	d := of(t, 7, "ab", "s", "r")
	d.Write([]byte("cd"))
	d.Write([]byte("e"))
	was := see(d)
	for keep, left := range map[int]string{
		math.MinInt: "ab", math.MinInt32: "ab", -3: "ab", -1: "ab", 0: "ab", 1: "abc", 2: "abcd", 3: "abcde",
		4: "abcde", 5: "abcde", 1 << 20: "abcde", math.MaxInt32: "abcde", math.MaxInt - 1: "abcde", math.MaxInt: "abcde",
	} {
		wantSeen(t, "stopped", d.Stop(keep), seen{log: left, sure: len(left), room: 7 - len(left), snapshot: "s", has: true, spare: "r", spareHas: true})
	}
	wantSeen(t, "this one", d, was)
}

// P3.5: both places stay as they are, whichever is the last one and whatever they have.
func TestStopOfPlaces(t *testing.T) {
	d := fresh(t, 6)
	wantSeen(t, "none", d.Stop(0), seen{room: 6})
	d.Put([]byte("a"))
	wantSeen(t, "put", d.Stop(0), seen{room: 6, spare: "a", spareHas: true})
	wantErrno(t, "Switch behind the stop", d.Stop(0).Switch(), api.OK)
	d.Switch()
	wantSeen(t, "switched", d.Stop(0), seen{room: 6, snapshot: "a", has: true})
	wantErrno(t, "Switch behind the stop", d.Stop(0).Switch(), api.ErrNone)
	d.Put(nil)
	wantSeen(t, "put once more", d.Stop(0), seen{room: 6, snapshot: "a", has: true, spareHas: true})
	d.Switch()
	stopped := d.Stop(0)
	wantSeen(t, "switched once more", stopped, seen{room: 6, has: true, spare: "a", spareHas: true})
	stopped.Put([]byte("b"))
	wantSeen(t, "put behind the stop", stopped, seen{room: 6, has: true, spare: "b", spareHas: true, steps: 1})
}

// P3.5: the capacity is the same one: as many bytes can be written behind a stop, and no more.
func TestStopHasTheCapacity(t *testing.T) {
	d := of(t, 4, "ab")
	d.Write([]byte("cd"))
	stopped := d.Stop(1)
	wantErrno(t, "Write of too many", stopped.Write([]byte("xy")), api.ErrFull)
	wantErrno(t, "Write", stopped.Write([]byte("x")), api.OK)
	wantSeen(t, "written to", stopped, seen{log: "abcx", sure: 3, steps: 2})
	wantErrno(t, "Drop of what the stop left", stopped.Drop(3), api.OK)
	wantErrno(t, "Drop of what was written since", stopped.Drop(1), api.ErrArg)
	wantSeen(t, "dropped", stopped, seen{log: "x", room: 3, steps: 4})
	wantSeen(t, "the one that was stopped", d, seen{log: "abcd", sure: 2, steps: 1})
}

// P3.5: Copy stands where this one does, what does not last yet and the steps too.
func TestCopy(t *testing.T) {
	d := fresh(t, 6)
	wantSeen(t, "of a new one", d.Copy(), seen{room: 6})
	d.Write([]byte("ab"))
	d.Sync()
	d.Write([]byte("c"))
	d.Put([]byte("s"))
	d.Switch()
	d.Put([]byte("r"))
	d.Trim(9)
	want := seen{log: "abc", sure: 2, room: 3, snapshot: "s", has: true, spare: "r", spareHas: true, steps: 7}
	wantSeen(t, "this one", d, want)
	wantSeen(t, "its copy", d.Copy(), want)
	wantSeen(t, "its copy's copy", d.Copy().Copy(), want)
	wantSeen(t, "its copy's stop", d.Copy().Stop(0), see(d.Stop(0)))
}

// P3.5: behind Stop and Copy both go on, each by itself, whichever is first.
func TestApart(t *testing.T) {
	steps := map[string]func(d *disk.Disk){
		"Write":  func(d *disk.Disk) { d.Write([]byte("x")) },
		"Sync":   func(d *disk.Disk) { d.Write([]byte("x")); d.Sync() },
		"Trim":   func(d *disk.Disk) { d.Trim(1); d.Write([]byte("xyz")) },
		"Drop":   func(d *disk.Disk) { d.Drop(1); d.Write([]byte("xyz")) },
		"Put":    func(d *disk.Disk) { d.Put([]byte("x")) },
		"Switch": func(d *disk.Disk) { d.Switch(); d.Put([]byte("x")) },
		"none":   func(d *disk.Disk) {},
	}
	ways := map[string]func(d *disk.Disk) *disk.Disk{
		"Copy": (*disk.Disk).Copy,
		"Stop": func(d *disk.Disk) *disk.Disk { return d.Stop(1) },
	}
	for way, another := range ways {
		for name, step := range steps {
			d := of(t, 6, "ab", "s", "r")
			d.Write([]byte("c"))
			other := another(d)
			was, otherWas := see(d), see(other)
			step(d)
			wantSeen(t, way+": the other one behind "+name, other, otherWas)
			now := see(d)
			other.Write([]byte("y"))
			other.Put([]byte("y"))
			other.Switch()
			other.Drop(2)
			wantSeen(t, way+": this one behind the other's steps and "+name, d, now)
			if name != "none" && now == was {
				t.Errorf("%s: %s changed nothing", way, name)
			}
		}
	}
}
