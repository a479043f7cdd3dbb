package disk_test

import (
	"math/rand"
	"strings"
	"testing"

	"wicket/api"
	"wicket/disk"
)

// someDisks are disks as random steps leave them: empty, full, beyond their capacity, with each kind of places.
func someDisks(t *testing.T, seed int64, many int) []*disk.Disk {
	t.Helper()
	r := rand.New(rand.NewSource(seed))
	var l []*disk.Disk
	for range many {
		d := of(t, 1+r.Intn(12), string(someBytes(r, r.Intn(8))), someTexts(r, r.Intn(3))...)
		for range r.Intn(20) {
			someStep(r).do(d)
		}
		l = append(l, d)
	}
	return l
}

// P3.6: behind Sync each Stop has all bytes of the file.
func TestStopBehindSync(t *testing.T) {
	for _, d := range someDisks(t, 31, 300) {
		d.Sync()
		want := see(d)
		want.steps = 0
		for keep := -2; keep < len(want.log)+2; keep++ {
			wantSeen(t, "stopped behind Sync", d.Stop(keep), want)
		}
	}
}

// P3.6: Stop of what Stop made is the same, whatever is asked.
func TestStopOfStop(t *testing.T) {
	for _, d := range someDisks(t, 32, 300) {
		for keep := -1; keep < 6; keep++ {
			once := d.Stop(keep)
			for again := -1; again < 6; again++ {
				wantSeen(t, "stopped twice", once.Stop(again), see(once))
				wantSeen(t, "stopped thrice", once.Stop(again).Stop(keep), see(once))
			}
		}
	}
}

// P3.6: behind each Stop the file is a beginning of what it was, which has all that lasted, and what was written since.
func TestStopLeavesABeginning(t *testing.T) {
	r := rand.New(rand.NewSource(33))
	for range 300 {
		d := fresh(t, 40)
		left, since := "", ""
		for range 30 {
			switch r.Intn(4) {
			case 0:
				was, sure := d.Log(), d.Sure()
				d = d.Stop(r.Intn(8) - 1)
				left, since = string(d.Log()), ""
				if !strings.HasPrefix(string(was), left) || len(left) < sure {
					t.Fatalf("a stop left %q of %q, of which %d lasted", left, was, sure)
				}
			case 1:
				d.Sync()
			default:
				b := someBytes(r, r.Intn(5))
				if d.Write(b) == api.OK {
					since += string(b)
				}
			}
			if string(d.Log()) != left+since {
				t.Fatalf("the file has %q, want %q and %q", d.Log(), left, since)
			}
		}
	}
}

// P3.6: of a Put that is not switched to the last snapshot is the elder one, behind a stop too.
func TestPutIsNotSwitchedTo(t *testing.T) {
	for _, d := range someDisks(t, 34, 300) {
		elder := see(d)
		d.Put([]byte("newer"))
		for _, at := range []*disk.Disk{d, d.Copy(), d.Stop(0), d.Stop(9).Stop(0)} {
			now := see(at)
			if now.snapshot != elder.snapshot || now.has != elder.has || now.spare != "newer" || !now.spareHas {
				t.Fatalf("behind a Put %v, ahead of it %v", now, elder)
			}
			wantErrno(t, "Switch", at.Switch(), api.OK)
			switched := see(at)
			if switched.snapshot != "newer" || !switched.has || switched.spare != elder.snapshot || switched.spareHas != elder.has {
				t.Fatalf("switched %v, ahead of the Put %v", switched, elder)
			}
		}
	}
}
