package store_test

import (
	"fmt"
	"math"
	"strings"
	"testing"

	"wicket/api"
	"wicket/dedup"
	"wicket/disk"
	"wicket/store"
)

// The chapter's examples, row by row.
func TestExamples(t *testing.T) {
	d := fresh(t, 1000)
	s := opened(t, d)
	wantNumbers(t, "new", s, 0, 0, 0)
	wrote(t, s, "open 5", "close 9")
	wantNumbers(t, "written", s, 0, 0, 2)
	wantNothingToDo(t, s, api.ErrNone)
	synced(t, s)
	wantDo(t, s, "1 open 5", "opened 5 1 0 ")
	wantDo(t, s, "2 close 9", "gone 0 9 0 ")
	wantNothingToDo(t, s, api.ErrNone)

	wantErrno(t, "Keep(4)", s.Keep(4), api.ErrArg)
	wantErrno(t, "Keep(3)", s.Keep(3), api.OK)
	if len(d.Log()) != 0 {
		t.Errorf("the log is % x", d.Log())
	}

	wrote(t, s, "open 6")
	wantNumbers(t, "behind a stop", opened(t, d.Stop(0)), 2, 2, 2)

	wantRead(t, s, 9, "get t k", "", api.ErrNone)
	wantRead(t, s, 1, "put t k v", "", api.ErrArg)
	wantRead(t, s, 1, "get t k", "00 01 00 00 00", api.OK)

	wantRefused(t, "1 2 3", diskOf(t, "", "\x01\x02\x03"), job, api.ErrCorrupt)
}

// tails stand behind whole records: whether they are torn or bad, they are cut off.
func tails() []string {
	whole := rec(99, "open 9")
	harmed := whole[:len(whole)-1] + "\x00"
	return []string{"", "\x00", "\x01\x02", whole[:8], whole[:len(whole)-1], harmed, harmed + whole, "\x01\x80\x00\x00\x00abcd", "\x01\x7f\xff\xff\xffabcd", strings.Repeat("\x00", 9), strings.Repeat("x", 40)}
}

// P14.1: each snapshot and each log of the story: where they meet, the state is that of all entries; else no server leaves it.
func TestSnapshotAndLog(t *testing.T) {
	right, wrong := 0, 0
	for k := range len(story) + 1 {
		snapshots := []string{snapshot(after(story[:k]...), int64(k))}
		for first := 1; first <= len(story)+1; first++ {
			for end := first - 1; end <= len(story); end++ {
				log := recs(int64(first), story[first-1:end]...)
				what := fmt.Sprintf("a snapshot of %d, entries %d to %d", k, first, end)
				if end >= first && (first > k+1 || end < k) {
					wrong++
					wantRefused(t, what, diskOf(t, log, snapshots...), job, api.ErrCorrupt)
					continue
				}
				right++
				upto := k
				if end >= first {
					upto = end
				}
				wantTold(t, what, diskOf(t, log, snapshots...), after(story[:upto]...), int64(upto), len(log))
			}
		}
	}
	if right < 100 || wrong < 100 {
		t.Errorf("%d were right, %d wrong", right, wrong)
	}
}

// P14.1: without a snapshot the log begins with the entry 1; whatever the spare place has.
func TestLogAlone(t *testing.T) {
	for end := range len(story) + 1 {
		log := recs(1, story[:end]...)
		wantTold(t, "a log alone", diskOf(t, log), after(story[:end]...), int64(end), len(log))
		for _, spare := range []string{"", "wrong", snapshot(after("open 9"), 1), snapshot(after("open 9"), 7)} {
			d := diskOf(t, log)
			d.Put([]byte(spare))
			wantTold(t, "a log, and a spare snapshot", d.Stop(0), after(story[:end]...), int64(end), len(log))
			d = diskOf(t, log[:len(recs(1, story[:end/2]...))], snapshot(after(story[:end/2]...), int64(end/2)), spare)
			wantTold(t, "both, and a spare snapshot", d, after(story[:end/2]...), int64(end/2), len(recs(1, story[:end/2]...)))
		}
	}
	for first := 2; first <= len(story); first++ {
		wantRefused(t, "the first entry lacks", diskOf(t, recs(int64(first), story[first-1:]...)), job, api.ErrCorrupt)
	}
}

// P14.1: what stands behind the last whole record is cut off, where it has no whole one too; nothing of it is done.
func TestTails(t *testing.T) {
	for _, tail := range tails() {
		for k := range len(story) {
			for end := k; end <= len(story); end++ {
				log := recs(int64(k)+1, story[k:end]...)
				wantTold(t, fmt.Sprintf("behind %d entries % x", end, tail), diskOf(t, log+tail, snapshot(after(story[:k]...), int64(k))), after(story[:end]...), int64(end), len(log))
			}
		}
	}
}

// P14.1: a disk whose log does not last yet, and one that is too small for it, tell the same; behind Open it lasts.
func TestAnyDiskOfALog(t *testing.T) {
	for _, tail := range tails() {
		log := recs(1, story...)
		d := fresh(t, 1000)
		d.Write([]byte(log[:30]))
		d.Sync()
		d.Write([]byte(log[30:] + tail))
		wantTold(t, "it does not last", d, after(story...), int64(len(story)), len(log))
		small, _ := disk.Of(1, []byte(log+tail))
		s := wantTold(t, "a small disk", small, after(story...), int64(len(story)), len(log))
		if n, e := s.Write(parsed("open 1")); n != 0 || e != api.OK {
			t.Errorf("Write to a small disk: %d, %v", n, e)
		}
	}
}

// P14.1: a log that layer 13 refuses, whatever the snapshot has of it.
func TestCorruptLog(t *testing.T) {
	head, next := recs(1, story[:2]...), rec(3, story[2])
	for what, log := range map[string]string{
		"another kind": head + framed(2, next[9:]), "no body": head + framed(1, ""), "a number alone": head + framed(1, "\x03"), "the number 0": framed(1, "\x00"+next[10:]),
		"a number too great": framed(1, digits(last+1)+next[10:]), "the greatest number": framed(1, digits(1<<64-1)+next[10:]), "no command": head + framed(1, "\x03\x01\x00"), "a command and a byte": head + framed(1, next[9:]+"\x00"),
		"a number left out": head + rec(4, story[3]), "a number twice": head + rec(2, story[1]), "a number of another form": head + framed(1, "\x83\x00"+next[10:]), "one that goes back": rec(2, story[1]) + rec(1, story[0]),
		"a snapshot as a record": head + snapshot(after(), 0),
	} {
		for _, tail := range append(tails(), next, rec(4, story[3])) {
			wantRefused(t, what, diskOf(t, log+tail), job, api.ErrCorrupt)
			for k := range 5 {
				wantRefused(t, what, diskOf(t, log+tail, snapshot(after(story[:k]...), int64(k))), job, api.ErrCorrupt)
			}
		}
	}
}

// P14.1: a snapshot that layer 12 refuses, or that is of another quota or window, whatever the log has.
func TestCorruptSnapshot(t *testing.T) {
	right := snapshot(after(story[:4]...), 4)
	other := func(q api.Quota, window int) string {
		m, e := dedup.New(q, window)
		if e != api.OK {
			t.Fatal(e)
		}
		return snapshot(m, 0)
	}
	wrong := map[string]string{
		"nothing": "", "another kind": framed(1, right[9:]), "below 0": framed(2, "\x01"+right[10:]), "a byte more": right + "\x00", "two": right + right, "a record": rec(1, story[0]), "no body": framed(2, ""),
		"another window": other(job.Quota, job.Window+1), "a lesser window": other(job.Quota, job.Window-1), "other rows": other(api.Quota{Rows: 8, Bytes: 900}, 4), "other bytes": other(api.Quota{Rows: 9, Bytes: 901}, 4),
	}
	for n := range right {
		wrong[fmt.Sprint("a beginning of ", n)] = right[:n]
		wrong[fmt.Sprint("another bit at ", n)] = right[:n] + string([]byte{right[n] ^ 4}) + right[n+1:]
	}
	for what, s := range wrong {
		for _, log := range []string{"", recs(1, story...), recs(5, story[4:]...), recs(1, story[:4]...), "torn"} {
			wantRefused(t, what, diskOf(t, log, s), job, api.ErrCorrupt)
			wantRefused(t, what, diskOf(t, log, s, right), job, api.ErrCorrupt)
		}
	}
	wantTold(t, "the right one", diskOf(t, "", right), after(story[:4]...), 4, 0)
}

// P14.1: the greatest numbers of entries, and of snapshots, which may be above those.
func TestGreatestNumbers(t *testing.T) {
	m := after(story[:3]...)
	behind := m.Copy()
	goOn(behind, "open 6", "open 7")
	for _, k := range []int64{last - 2, last - 3, last / 2, 1<<32 - 1} {
		log := recs(k+1, "open 6", "open 7")
		wantTold(t, fmt.Sprint("two behind ", k), diskOf(t, log, snapshot(m, k)), behind, k+2, len(log))
		wantTold(t, fmt.Sprint("two ahead of ", k+2), diskOf(t, log, snapshot(behind, k+2)), behind, k+2, len(log))
		wantRefused(t, fmt.Sprint("one lacks behind ", k-1), diskOf(t, log, snapshot(m, k-1)), job, api.ErrCorrupt)
		wantRefused(t, fmt.Sprint("one lacks up to ", k+3), diskOf(t, log, snapshot(m, k+3)), job, api.ErrCorrupt)
	}
	for _, k := range []int64{last, last + 1, most - 1, most} {
		wantTold(t, fmt.Sprint("a snapshot of ", k), diskOf(t, "torn", snapshot(m, k)), m, k, 0)
	}
	for _, k := range []int64{last + 1, most - 1, most} {
		wantRefused(t, fmt.Sprint("a log behind which is ", k), diskOf(t, rec(last, "open 6"), snapshot(m, k)), job, api.ErrCorrupt)
		wantRefused(t, fmt.Sprint("a log far ahead of ", k), diskOf(t, rec(1, "open 6"), snapshot(m, k)), job, api.ErrCorrupt)
	}
}

// fields are the job's numbers, each with the greatest that it may be.
func fields(c *api.Config) map[string]func(int64) int64 {
	whole := func(p *int, most int64) func(int64) int64 { return func(n int64) int64 { *p = int(n); return most } }
	long := func(p *int64, most int64) func(int64) int64 { return func(n int64) int64 { *p = n; return most } }
	return map[string]func(int64) int64{
		"Rows": whole(&c.Quota.Rows, 4096), "Bytes": whole(&c.Quota.Bytes, 1<<20), "Window": whole(&c.Window, 64), "Queue": whole(&c.Queue, 1024), "Wait": whole(&c.Wait, 1024),
		"Log": whole(&c.Log, 1<<20), "Timeout": long(&c.Timeout, 1<<40), "Idle": long(&c.Idle, 1<<40),
	}
}

// P14.1: each number of a job, at its bounds and past them.
func TestJobs(t *testing.T) {
	c := job
	for name, set := range fields(&c) {
		most := set(1)
		for _, n := range []int64{1, 2, most - 1, most} {
			set(n)
			d := fresh(t, 1000)
			if m, k, e := store.Look(d, c); m.Quota() != c.Quota || m.Window() != c.Window || k != 0 || e != api.OK {
				t.Errorf("%s of %d: Look: %v, %d, %v", name, n, m, k, e)
			}
			s, e := store.Open(d, c)
			if m := s.State(); m.Quota() != c.Quota || m.Window() != c.Window || e != api.OK {
				t.Errorf("%s of %d: Open: %v, %v", name, n, m, e)
			}
		}
		for _, n := range []int64{math.MinInt64, -most, -1, 0, most + 1, 1 << 41, math.MaxInt64} {
			set(n)
			wantRefused(t, fmt.Sprintf("%s of %d", name, n), fresh(t, 1000), c, api.ErrArg)
			wantRefused(t, fmt.Sprintf("%s of %d, a wrong log", name, n), diskOf(t, rec(2, "open 5")+rec(2, "open 5")), c, api.ErrArg)
			wantRefused(t, fmt.Sprintf("%s of %d, a wrong snapshot", name, n), diskOf(t, "", "wrong"), c, api.ErrArg)
			wantRefused(t, fmt.Sprintf("%s of %d, no disk", name, n), nil, c, api.ErrNil)
		}
		c = job
	}
	wantRefused(t, "no job", fresh(t, 1000), api.Config{}, api.ErrArg)
}

// P14.1: the job's Log need not be the disk's capacity: the disk says what room there is.
func TestRoomIsTheDisks(t *testing.T) {
	c := job
	c.Log = 1
	s, e := store.Open(fresh(t, 24), c)
	if n, wrong := s.Write(commands("open 5", "open 6", "open 7")...); e != api.OK || n != 2 || wrong != api.OK {
		t.Errorf("Open: %v; Write: %d, %v", e, n, wrong)
	}
}

// P14.1: no disk is ahead of all else.
func TestNoDisk(t *testing.T) {
	refused, _ := disk.New(0)
	for name, d := range map[string]*disk.Disk{"nil": nil, "refused": refused, "zero": {}, "new": new(disk.Disk)} {
		wantRefused(t, name, d, job, api.ErrNil)
		wantRefused(t, name+", no job", d, api.Config{}, api.ErrNil)
	}
}
