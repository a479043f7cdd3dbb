package session_test

import (
	"math"
	"testing"

	"wicket/api"
	"wicket/session"
)

// P10.2 to P10.4: of a session that is not there, of one that New or Of refused, and of a zero one: ErrNil where an error
// is answered, whatever is handed in, else zero answers.
func TestNoSession(t *testing.T) {
	refused, _ := session.New(1, 9, 65)
	notMade, _ := session.Of(1, 9, 2, 0, api.Kept{Number: 1}, api.Kept{Number: 1})
	for name, s := range map[string]*session.Session{"nil": nil, "refused": refused, "not made": notMade, "zero": {}, "new": new(session.Session)} {
		t.Run(name, func(t *testing.T) {
			for range 2 {
				noNumberComes(t, s)
				nothingIsSeen(t, s)
			}
		})
	}
}

// noNumberComes asks with numbers and marks that may be, and with such that may not: ErrNil is ahead of ErrArg.
func noNumberComes(t *testing.T, s *session.Session) {
	t.Helper()
	for _, number := range []int64{math.MinInt64, -1, 0, 1, 2, 64, 65, most} {
		for _, mark := range []int64{math.MinInt64, -1, 0, 1, 64, most} {
			if got := said(s.Come(number, mark)); got != "error 1" {
				t.Errorf("Come(%d, %d): %s", number, mark, got)
			}
		}
		if got := said(s.Look(number)); got != "error 1" {
			t.Errorf("Look(%d): %s", number, got)
		}
		for _, answer := range [][]byte{nil, {}, []byte("a")} {
			wantErrno(t, "Put", s.Put(number, answer), api.ErrNil)
		}
	}
}

func nothingIsSeen(t *testing.T, s *session.Session) {
	t.Helper()
	if got := see(s); got != (seen{}) {
		t.Errorf("it has %v", got)
	}
	if s.Kept() != nil || s.Copy() != nil {
		t.Error("its Kept or its Copy is there")
	}
}

// P10.4: two that are not there are the same, a zero one is as nil; one that is there is another one.
func TestSameOfNoSession(t *testing.T) {
	var none *session.Session
	zero := &session.Session{}
	wantSame(t, "nil and nil", none, nil, true)
	wantSame(t, "nil and zero", none, zero, true)
	wantSame(t, "zero and zero", zero, new(session.Session), true)
	wantSame(t, "zero and itself", zero, zero, true)
	for _, s := range []*session.Session{of(t, 1, 0, ""), of(t, 4, 9, "10=a"), of(t, 64, most, "")} {
		wantSame(t, "nil and another", none, s, false)
		wantSame(t, "zero and another", zero, s, false)
	}
}
