package disk_test

import (
	"math"
	"testing"

	"wicket/api"
	"wicket/disk"
)

// P3.4: looking counts as no step, and changes nothing.
func TestLooking(t *testing.T) {
	d := of(t, 6, "ab", "s", "r")
	d.Write([]byte("c"))
	want := seen{log: "abc", sure: 2, room: 3, snapshot: "s", has: true, spare: "r", spareHas: true, steps: 1}
	for range 3 {
		wantSeen(t, "looked at", d, want)
		d.Stop(1)
		d.Copy()
	}
	wantSeen(t, "looked at", d, want)
}

// P3.4: every step counts once, the refused ones too.
func TestStepsCount(t *testing.T) {
	d := fresh(t, 2)
	steps := []struct {
		what string
		do   func() api.Errno
		want api.Errno
	}{
		{"Write", func() api.Errno { return d.Write([]byte("a")) }, api.OK},
		{"Write of nothing", func() api.Errno { return d.Write(nil) }, api.OK},
		{"Write of too many", func() api.Errno { return d.Write([]byte("abc")) }, api.ErrFull},
		{"Sync", d.Sync, api.OK},
		{"Sync once more", d.Sync, api.OK},
		{"Trim", func() api.Errno { return d.Trim(1) }, api.OK},
		{"Trim beyond", func() api.Errno { return d.Trim(2) }, api.ErrArg},
		{"Trim below 0", func() api.Errno { return d.Trim(-1) }, api.ErrArg},
		{"Drop", func() api.Errno { return d.Drop(1) }, api.OK},
		{"Drop of nothing", func() api.Errno { return d.Drop(0) }, api.OK},
		{"Drop beyond", func() api.Errno { return d.Drop(1) }, api.ErrArg},
		{"Drop below 0", func() api.Errno { return d.Drop(-1) }, api.ErrArg},
		{"Switch without one", d.Switch, api.ErrNone},
		{"Put", func() api.Errno { return d.Put([]byte("s")) }, api.OK},
		{"Put of nothing", func() api.Errno { return d.Put(nil) }, api.OK},
		{"Switch", d.Switch, api.OK},
		{"Switch without one", d.Switch, api.ErrNone},
	}
	for i, s := range steps {
		if d.Steps() != i {
			t.Fatalf("%d steps ahead of %s, want %d", d.Steps(), s.what, i)
		}
		wantErrno(t, s.what, s.do(), s.want)
	}
	if d.Steps() != len(steps) || d.Copy().Steps() != len(steps) || d.Stop(0).Steps() != 0 {
		t.Errorf("%d steps, of a copy %d, behind a stop %d", d.Steps(), d.Copy().Steps(), d.Stop(0).Steps())
	}
}

// A disk that is nil, one that no call made, and one that New or Of refused: ErrNil, and zero answers else.
func TestNoDisk(t *testing.T) {
	refused, _ := disk.New(0)
	refusedOf, _ := disk.Of(6, nil, nil, nil, nil)
	for what, d := range map[string]*disk.Disk{"nil": nil, "a zero one": {}, "refused by New": refused, "refused by Of": refusedOf} {
		steps := map[string]api.Errno{
			"Write": d.Write([]byte("a")), "Write of nothing": d.Write(nil), "Sync": d.Sync(),
			"Trim(0)": d.Trim(0), "Trim(-1)": d.Trim(-1), "Trim(1)": d.Trim(1),
			"Drop(0)": d.Drop(0), "Drop(-1)": d.Drop(-1), "Drop(1)": d.Drop(1),
			"Put": d.Put([]byte("a")), "Put of nothing": d.Put(nil), "Switch": d.Switch(),
		}
		for step, e := range steps {
			wantErrno(t, what+": "+step, e, api.ErrNil)
		}
		if got := see(d); got != (seen{}) {
			t.Errorf("%s: %v", what, got)
		}
		snapshot, _ := d.Snapshot()
		spare, _ := d.Spare()
		if len(d.Log()) != 0 || snapshot != nil || spare != nil {
			t.Errorf("%s: answers that are not zero", what)
		}
		for _, keep := range []int{math.MinInt, -1, 0, 1, math.MaxInt} {
			if d.Stop(keep) != nil {
				t.Errorf("%s: Stop(%d) is a disk", what, keep)
			}
		}
		if d.Copy() != nil {
			t.Errorf("%s: Copy is a disk", what)
		}
	}
}
