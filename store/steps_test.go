package store_test

import (
	"fmt"
	"slices"
	"testing"

	"wicket/api"
	"wicket/store"
)

// P14.2, P14.3: written, synced, done, one by one and several at a time; what is written later does not last with the rest.
func TestWriteSyncDo(t *testing.T) {
	d := fresh(t, 1000)
	s := opened(t, d)
	log := recs(1, story...)
	wrote(t, s, story[0])
	wrote(t, s, story[1:3]...)
	wantNumbers(t, "written", s, 0, 0, 3)
	wantDisk(t, "written", d, disked{log[:len(recs(1, story[:3]...))], 0, 3, "none", "none"})
	wantWaiting(t, "written", s)
	wantNothingToDo(t, s, api.ErrNone)
	wantState(t, "written", s, after())
	synced(t, s)
	wantNumbers(t, "synced", s, 0, 3, 3)
	wantWaiting(t, "synced", s, numbered(1, story[:3]...)...)
	wantState(t, "synced", s, after())
	wrote(t, s, story[3:5]...)
	wantNumbers(t, "more is written", s, 0, 3, 5)
	wantWaiting(t, "more is written", s, numbered(1, story[:3]...)...)
	wantDo(t, s, "1 open 5", "opened 5 1 0 ")
	wantNumbers(t, "one is done", s, 1, 3, 5)
	wantWaiting(t, "one is done", s, numbered(2, story[1:3]...)...)
	wantState(t, "one is done", s, after(story[:1]...))
	wantDo(t, s, "2 call 1 1 0 put t a 1", "answered 0 1 1 00 01 00 00 00")
	wantDo(t, s, "3 close 1", "closed 0 1 0 ")
	wantNothingToDo(t, s, api.ErrNone)
	wantNumbers(t, "three are done", s, 3, 3, 5)
	wantWaiting(t, "three are done", s)
	synced(t, s)
	wantDo(t, s, "4 open 6", "opened 6 2 0 ")
	wantDo(t, s, "5 call 2 1 0 swap t a +1 2; put t b 3", "answered 0 2 1 00 02 01 00 00 00 00 00")
	wantNothingToDo(t, s, api.ErrNone)
	wantNumbers(t, "all are done", s, 5, 5, 5)
	wantState(t, "all are done", s, after(story[:5]...))
	written := recs(1, story[:5]...)
	wantDisk(t, "all are done", d, disked{written, len(written), 6, "none", "none"})
}

// P14.3: what is told is what layer 11 tells, of each kind of reply; a refused Do leaves all as it is.
func TestReplies(t *testing.T) {
	s := opened(t, fresh(t, 1000))
	texts := []string{"open 5", "open 5", "call 1 1 0 get t a", "call 1 1 0 get t a", "call 1 9 0 put t a 1", "call 1 2 1 put t a 1", "call 1 1 0 put t a 1", "call 7 1 0 put t a 1", "close 1", "expire 1"}
	wrote(t, s, texts...)
	synced(t, s)
	for i, reply := range []string{"opened 5 1 0 ", "opened 5 1 0 ", "answered 0 1 1 00 01 00 00 00", "answered 0 1 1 00 01 00 00 00", "ahead 0 1 9 ", "answered 0 1 2 00 01 00 00 00", "stale 0 1 1 ", "gone 0 7 1 ", "closed 0 1 0 ", "gone 0 1 0 "} {
		wantWaiting(t, "ahead of Do", s, numbered(int64(i)+1, texts[i:]...)...)
		wantDo(t, s, fmt.Sprint(i+1, " ", texts[i]), reply)
		wantState(t, "behind Do", s, after(texts[:i+1]...))
	}
	for range 2 {
		wantNothingToDo(t, s, api.ErrNone)
		wantNumbers(t, "nothing is to be done", s, 10, 10, 10)
		wantState(t, "nothing is to be done", s, after(texts...))
	}
}

// P14.2: with each room that there may be, as many as go into it; the others can be written later, when there is room.
func TestWriteAsThereIsRoom(t *testing.T) {
	for capacity := 1; capacity <= len(recs(1, story...))+1; capacity++ {
		d := fresh(t, capacity)
		s := opened(t, d)
		many := 0
		for many < len(story) && len(recs(1, story[:many+1]...)) <= capacity {
			many++
		}
		n, e := s.Write(commands(story...)...)
		if n != many || e != api.OK {
			t.Errorf("Write into %d bytes: %d, %v; want %d", capacity, n, e, many)
		}
		wantDisk(t, "written", d, disked{recs(1, story[:many]...), 0, 1 + min(many, 1), "none", "none"})
		wantNumbers(t, "written", s, 0, 0, int64(many))
		synced(t, s)
		wantWaiting(t, "synced", s, numbered(1, story[:many]...)...)
		did(t, s, many)
		wantState(t, "done", s, after(story[:many]...))
		wantErrno(t, "Keep(3)", s.Keep(3), api.OK)
		if many < len(story) && len(rec(int64(many)+1, story[many])) <= capacity {
			wrote(t, s, story[many])
			wantNumbers(t, "one more", s, int64(many), int64(many), int64(many)+1)
		}
	}
}

// P14.2: none at all is no step.
func TestWriteNone(t *testing.T) {
	s, d := standing(t, 1, 2, 3)
	at := see(d)
	for _, l := range [][]api.Command{nil, {}} {
		if n, e := s.Write(l...); n != 0 || e != api.OK {
			t.Errorf("Write of none: %d, %v", n, e)
		}
	}
	wantDisk(t, "none", d, at)
	wantNumbers(t, "none", s, 1, 2, 3)
}

func wantNotWritten(t *testing.T, what string, s *store.Store, want api.Errno, l ...api.Command) {
	t.Helper()
	if n, e := s.Write(l...); n != 0 || e != want {
		t.Errorf("%s: Write: %d, %v; want %v", what, n, e, want)
	}
}

// P14.2: a command that may not be, wherever it stands, ahead of too many commands; nothing has changed then.
func TestWriteRefused(t *testing.T) {
	s, d := standing(t, 1, 2, 3)
	at := see(d)
	o := parsed("open 5")
	many := slices.Repeat([]api.Command{o}, api.MaxQueue+1)
	long := parsed("call 1 1 0 put t k v")
	for range 15 {
		long.Call.Ops = append(long.Call.Ops, api.Op{Kind: api.Put, Table: "t", Key: make([]byte, 64), Value: make([]byte, 256)})
	}
	for _, wrong := range []api.Command{{}, {Kind: 5, Session: 1}, {Kind: api.CommandOpen}, {Kind: api.CommandOpen, Token: 1, Session: 1}, {Kind: api.CommandClose}, {Kind: api.CommandExpire, Session: -1}, {Kind: api.CommandCall, Session: 1, Number: 1}, long} {
		wantNotWritten(t, "alone", s, api.ErrArg, wrong)
		wantNotWritten(t, "first", s, api.ErrArg, wrong, o)
		wantNotWritten(t, "last", s, api.ErrArg, o, o, wrong)
		wantNotWritten(t, "behind too many", s, api.ErrArg, append(slices.Clone(many), wrong)...)
	}
	wantNotWritten(t, "too many", s, api.ErrLong, many...)
	wantDisk(t, "refused", d, at)
	wantNumbers(t, "refused", s, 1, 2, 3)
	synced(t, s)
	wantWaiting(t, "refused", s, numbered(2, story[1:3]...)...)
	big := opened(t, fresh(t, api.MaxLog))
	if n, e := big.Write(many[1:]...); n != api.MaxQueue || e != api.OK {
		t.Errorf("as many as may be: %d, %v", n, e)
	}
}

// P14.2: entries' numbers go as far as layer 13 takes a first one; behind that, at the greatest snapshots too, none is written.
func TestWriteAtTheGreatestNumbers(t *testing.T) {
	m := after(story[:3]...)
	for _, k := range []int64{last - api.MaxQueue - 2, last - api.MaxQueue - 1} {
		d := diskOf(t, "", snapshot(m, k))
		s := opened(t, d)
		wrote(t, s, "open 6", "open 7")
		wantNumbers(t, "written", s, k, k, k+2)
		synced(t, s)
		wantWaiting(t, "synced", s, numbered(k+1, "open 6", "open 7")...)
		wantDo(t, s, fmt.Sprint(k+1, " open 6"), "opened 6 2 0 ")
		wantErrno(t, "Keep(3)", s.Keep(3), api.OK)
		one, two := m.Copy(), m.Copy()
		goOn(one, "open 6")
		goOn(two, "open 6", "open 7")
		if b, _ := d.Snapshot(); string(b) != snapshot(one, k+1) || string(d.Log()) != rec(k+2, "open 7") {
			t.Errorf("the snapshot is % x, the log % x", b, d.Log())
		}
		wantTold(t, "behind a stop", d.Stop(0), two, k+2, len(rec(k+2, "open 7")))
	}
	for _, k := range []int64{last - api.MaxQueue, last - 1, last, last + 1, most - 1, most} {
		d := diskOf(t, "", snapshot(m, k))
		s := opened(t, d)
		at := see(d)
		for _, l := range [][]api.Command{nil, commands("open 6"), {{}}, slices.Repeat(commands("open 6"), api.MaxQueue+1)} {
			wantNotWritten(t, fmt.Sprint("behind ", k), s, api.ErrArg, l...)
		}
		wantDisk(t, "refused", d, at)
		wantNumbers(t, "refused", s, k, k, k)
		synced(t, s)
		wantNothingToDo(t, s, api.ErrNone)
		wantErrno(t, "Keep(3)", s.Keep(3), api.OK)
		wantTold(t, "kept", d.Stop(0), m, k, 0)
	}
}

// P14.2: Sync is one step of the disk each time, whether there is anything or not.
func TestSync(t *testing.T) {
	s, d := standing(t, 0, 0, 2)
	at := see(d)
	for range 3 {
		synced(t, s)
		at.sure, at.steps = len(at.log), at.steps+1
		wantDisk(t, "Sync", d, at)
		wantNumbers(t, "Sync", s, 0, 2, 2)
		wantState(t, "Sync", s, after())
	}
}

// P14.1, P14.2: the store keeps the disk that it is handed: what it writes is there to be seen; entries that were there are done,
// and tell nobody.
func TestGoesOnBehindTheLog(t *testing.T) {
	for k := range len(story) {
		for end := k; end < len(story); end++ {
			d := diskOf(t, recs(int64(k)+1, story[k:end]...)+"torn", snapshot(after(story[:k]...), int64(k)))
			s := opened(t, d)
			wrote(t, s, story[end:]...)
			synced(t, s)
			wantWaiting(t, "behind the log", s, numbered(int64(end)+1, story[end:]...)...)
			did(t, s, len(story)-end)
			wantNothingToDo(t, s, api.ErrNone)
			wantState(t, "behind the log", s, after(story...))
			if string(d.Log()) != recs(int64(k)+1, story[k:]...) {
				t.Errorf("the log is % x", d.Log())
			}
		}
	}
}

// P14.3: many entries, done one by one, while others come behind them.
func TestManyEntries(t *testing.T) {
	s := opened(t, fresh(t, api.MaxLog))
	want := after()
	for i := range 2000 {
		texts := []string{fmt.Sprint("open ", 1+i%7), fmt.Sprint("close ", 1+i/3)}
		wrote(t, s, texts...)
		synced(t, s)
		if i%10 == 9 {
			did(t, s, 19)
		}
		goOn(want, texts...)
	}
	wantNumbers(t, "most are done", s, 3800, 4000, 4000)
	did(t, s, 200)
	wantState(t, "all are done", s, want)
}
