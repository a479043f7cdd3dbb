package store_test

import (
	"fmt"
	"math"
	"testing"

	"wicket/api"
	"wicket/disk"
	"wicket/store"
)

// wantSameToAll: Open of what any stop leaves of the disk tells what it told of the other one's.
func wantSameToAll(t *testing.T, what string, d, was *disk.Disk) {
	t.Helper()
	for keep := -1; keep <= len(was.Log())-was.Sure()+1; keep++ {
		m, n, e := store.Look(d.Stop(keep), job)
		o, many, wrong := store.Look(was.Stop(keep), job)
		if e != api.OK || wrong != api.OK || n != many || !m.Same(o) {
			t.Errorf("%s: behind Stop(%d): %d, %v; it was %d, %v", what, keep, n, e, many, wrong)
		}
	}
}

// P14.4: each number of steps, with each number of entries done, lasting, written: just these steps, and nothing else changes.
func TestKeep(t *testing.T) {
	for written := range 7 {
		for lasting := range written + 1 {
			for done := range lasting + 1 {
				for steps := range 4 {
					s, d := standing(t, done, lasting, written)
					at, was := see(d), d.Copy()
					what := fmt.Sprintf("Keep(%d) at %d %d %d", steps, done, lasting, written)
					wantErrno(t, what, s.Keep(steps), api.OK)
					state := "has " + snapshot(after(story[:done]...), int64(done))
					at.steps += min(steps, 2)
					if steps == 1 {
						at.spare = state
					}
					if steps > 1 {
						at.last = state
					}
					if gone := len(recs(1, story[:done]...)); steps == 3 && done > 0 {
						at.log, at.sure, at.steps = at.log[gone:], at.sure-gone, at.steps+1
					}
					wantDisk(t, what, d, at)
					wantNumbers(t, what, s, int64(done), int64(lasting), int64(written))
					wantState(t, what, s, after(story[:done]...))
					wantWaiting(t, what, s, numbered(int64(done)+1, story[done:lasting]...)...)
					wantSameToAll(t, what, d, was)
				}
			}
		}
	}
}

// P14.4: once more, with fewer steps and with more: the elder snapshot stays in the other place, what is gone from the log stays
// gone, and of a log without records up to the number nothing is dropped.
func TestKeepAgain(t *testing.T) {
	for first := range 4 {
		for second := range 4 {
			s, d := standing(t, 2, 5, 6)
			wantErrno(t, "Keep", s.Keep(first), api.OK)
			did(t, s, 2)
			at, was := see(d), d.Copy()
			wantErrno(t, "Keep again", s.Keep(second), api.OK)
			state := "has " + snapshot(after(story[:4]...), 4)
			at.steps += second
			switch {
			case second == 1:
				at.spare = state
			case second > 1:
				at.last, at.spare = state, at.last
			}
			if second == 3 {
				at.log, at.sure = recs(5, story[4:6]...), len(recs(5, story[4]))
			}
			what := fmt.Sprintf("Keep(%d) and Keep(%d)", first, second)
			wantDisk(t, what, d, at)
			wantSameToAll(t, what, d, was)
			if second == 3 {
				wantErrno(t, "Keep a third time", s.Keep(3), api.OK)
				at.steps, at.spare = at.steps+2, at.last
				wantDisk(t, what+" and Keep(3)", d, at)
			}
		}
	}
}

// P14.4: a log from which nothing was dropped, though the snapshot has some of it: those are dropped with the others.
func TestKeepBehindComingUp(t *testing.T) {
	for k := range 6 {
		d := diskOf(t, recs(1, story[:5]...), snapshot(after(story[:k]...), int64(k)))
		s := opened(t, d)
		wrote(t, s, story[5])
		wantErrno(t, "Keep(3)", s.Keep(3), api.OK)
		wantDisk(t, "kept", d, disked{rec(6, story[5]), 0, 5, "has " + snapshot(after(story[:5]...), 5), "has " + snapshot(after(story[:k]...), int64(k))})
		wantTold(t, "kept", d.Stop(99), after(story[:6]...), 6, len(rec(6, story[5])))
		wantTold(t, "kept", d.Stop(3), after(story[:5]...), 5, 0)
	}
}

// P14.4: numbers of steps that there are not; nothing has changed then.
func TestKeepRefused(t *testing.T) {
	s, d := standing(t, 2, 4, 6)
	at := see(d)
	for _, steps := range []int{math.MinInt, math.MinInt32, -3, -1, 4, 5, 256, 1 << 32, math.MaxInt} {
		wantErrno(t, fmt.Sprintf("Keep(%d)", steps), s.Keep(steps), api.ErrArg)
	}
	wantDisk(t, "refused", d, at)
	wantNumbers(t, "refused", s, 2, 4, 6)
	wantState(t, "refused", s, after(story[:2]...))
}

// P14.4: up to the first step that is refused, its error. (Another one has spoilt the log: only the third step finds it.)
func TestKeepUpToTheFirstRefused(t *testing.T) {
	for steps := range 4 {
		s, d := standing(t, 2, 4, 6)
		d.Write([]byte(framed(2, "no entry")))
		at := see(d)
		want := api.OK
		if steps == 3 {
			want = api.ErrCorrupt
		}
		wantErrno(t, "Keep", s.Keep(steps), want)
		at.steps += min(steps, 2)
		state := "has " + snapshot(after(story[:2]...), 2)
		if steps == 1 {
			at.spare = state
		}
		if steps > 1 {
			at.last = state
		}
		wantDisk(t, "refused", d, at)
		wantNumbers(t, "refused", s, 2, 4, 6)
		wantWaiting(t, "refused", s, numbered(3, story[2:4]...)...)
	}
}
