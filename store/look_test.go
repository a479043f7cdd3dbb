package store_test

import (
	"fmt"
	"math"
	"testing"

	"wicket/api"
	"wicket/calls"
	"wicket/store"
)

func wantRead(t testing.TB, s *store.Store, session int64, text, want string, wrong api.Errno) {
	t.Helper()
	b, e := s.Read(session, call(text))
	if fmt.Sprintf("% x", b) != want || e != wrong || e != api.OK && b != nil {
		t.Errorf("Read(%d, %s): % x, %v; want %s, %v", session, text, b, e, want, wrong)
	}
}

// P14.5: of the state as it is: of what is done, not of what only lasts or is written.
func TestRead(t *testing.T) {
	s := opened(t, fresh(t, 1000))
	wrote(t, s, "open 5", "call 1 1 0 put t a 1", "close 1")
	wantRead(t, s, 1, "get t a", "", api.ErrNone)
	synced(t, s)
	wantRead(t, s, 1, "get t a", "", api.ErrNone)
	did(t, s, 1)
	wantRead(t, s, 1, "get t a", "00 01 00 00 00", api.OK)
	did(t, s, 1)
	wantRead(t, s, 1, "get t a", "00 01 01 01 31 00", api.OK)
	wantRead(t, s, 1, "scan t % % 9", "00 01 00 00 01 01 61 01 31", api.OK)
	wantRead(t, s, 1, "scan t b % 9; get t a", "00 02 00 00 00 01 01 31 00", api.OK)
	did(t, s, 1)
	wantRead(t, s, 1, "get t a", "", api.ErrNone)
}

// P14.5: nothing changes by it, neither the state nor the disk.
func TestReadChangesNothing(t *testing.T) {
	s, d := standing(t, 6, 8, 9)
	at := see(d)
	for _, text := range []string{"get t b", "scan t % % 64", "get t b; get u c; scan t a z 1", "put t b 9", "delete t b"} {
		for _, session := range []int64{2, 1, 0} {
			s.Read(session, call(text))
		}
	}
	wantDisk(t, "read", d, at)
	wantNumbers(t, "read", s, 6, 8, 9)
	wantState(t, "read", s, after(story[:6]...))
	wantWaiting(t, "read", s, numbered(7, story[6:8]...)...)
}

// P14.5: each session that does not live, and each call that may not be read, which is refused first.
func TestReadRefused(t *testing.T) {
	s, _ := standing(t, 6, 6, 6)
	sessions := []int64{2, 1, 3, 0, -1, -2, 1 << 32, last, math.MinInt64, math.MaxInt64}
	for _, session := range sessions[1:] {
		wantRead(t, s, session, "get t b", "", api.ErrNone)
		wantRead(t, s, session, "scan t % % 9", "", api.ErrNone)
	}
	key, value := make([]byte, api.MaxKey), make([]byte, api.MaxValue)
	get := api.Op{Kind: api.Get, Table: "t", Key: key}
	many, long := api.Call{}, api.Call{}
	for range api.MaxOps {
		many.Ops = append(many.Ops, get)
		long.Ops = append(long.Ops, api.Op{Kind: api.Put, Table: "t", Key: key, Value: value})
	}
	wrong := []api.Call{{}, {Ops: []api.Op{}}, {Ops: []api.Op{{}}}, {Ops: []api.Op{{Kind: 6, Table: "t", Key: key}}}, {Ops: []api.Op{{Kind: api.Get, Table: "T", Key: key}}}, {Ops: []api.Op{{Kind: api.Get, Table: "t"}}},
		{Ops: []api.Op{{Kind: api.Get, Table: "t", Key: key, Value: value}}}, {Ops: []api.Op{{Kind: api.Scan, Table: "t"}}}, {Ops: []api.Op{{Kind: api.Scan, Table: "t", Most: 65}}}, {Ops: append(many.Ops, get)}, long,
		call("put t b 1"), call("delete t b"), call("swap t b +3 4"), call("swap t z +3 4"), call("get t b; put t b 1"), call("put t b 1; get t b")}
	if calls.Check(long) != api.ErrLong {
		t.Fatal("the call is not too long")
	}
	for i, c := range wrong {
		for _, session := range sessions {
			if b, e := s.Read(session, c); b != nil || e != api.ErrArg {
				t.Errorf("the wrong call %d, session %d: % x, %v", i, session, b, e)
			}
		}
	}
	if b, e := s.Read(2, many); e != api.OK || len(b) != 2+3*api.MaxOps {
		t.Errorf("as many as may be: % x, %v", b, e)
	}
}

// P14.5: State and Numbers at each place that a store comes by.
func TestStateAndNumbers(t *testing.T) {
	for written := range len(story) + 1 {
		for lasting := range written + 1 {
			for done := range lasting + 1 {
				s, _ := standing(t, done, lasting, written)
				what := fmt.Sprint(done, lasting, written)
				for range 2 {
					wantNumbers(t, what, s, int64(done), int64(lasting), int64(written))
					wantState(t, what, s, after(story[:done]...))
					wantWaiting(t, what, s, numbered(int64(done)+1, story[done:lasting]...)...)
				}
			}
		}
	}
}

// none is stores that are not there, and zero ones.
func none(t *testing.T) map[string]*store.Store {
	refused, _ := store.Open(nil, job)
	noJob, _ := store.Open(fresh(t, 1), api.Config{})
	corrupt, _ := store.Open(diskOf(t, "", "wrong"), job)
	return map[string]*store.Store{"nil": nil, "refused": refused, "no job": noJob, "corrupt": corrupt, "zero": {}, "new": new(store.Store)}
}

// P14.2 to P14.5: of a store that is not there, of one that Open refused, and of a zero one: ErrNil where an error is answered,
// whatever is handed in, else zero answers; and so again.
func TestNoStore(t *testing.T) {
	for name, s := range none(t) {
		for range 2 {
			for _, l := range [][]api.Command{nil, commands("open 5"), {{}}, make([]api.Command, api.MaxQueue+1)} {
				wantNotWritten(t, name, s, api.ErrNil, l...)
			}
			wantErrno(t, name+": Sync", s.Sync(), api.ErrNil)
			wantNothingToDo(t, s, api.ErrNil)
			for steps := -1; steps < 5; steps++ {
				wantErrno(t, name+": Keep", s.Keep(steps), api.ErrNil)
			}
			wantNumbers(t, name, s, 0, 0, 0)
			if s.State() != nil || s.Waiting() != nil {
				t.Errorf("%s: State: %v; Waiting: %v", name, s.State(), s.Waiting())
			}
			for _, text := range []string{"get t a", "put t a 1"} {
				wantRead(t, s, 1, text, "", api.ErrNil)
			}
			if b, e := s.Read(0, api.Call{}); b != nil || e != api.ErrNil {
				t.Errorf("%s: Read: % x, %v", name, b, e)
			}
		}
	}
}
