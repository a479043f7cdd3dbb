package session_test

import (
	"fmt"
	"slices"
	"testing"

	"wicket/api"
	"wicket/session"
)

// P10.4: each is told as it was handed in, and none for another.
func TestLooking(t *testing.T) {
	s, e := session.Of(3, 4, 5, 6, answers("7=aa 9= 11=c")...)
	wantErrno(t, "Of", e, api.OK)
	for range 3 {
		wantSeen(t, "looked at", s, seen{id: 3, token: 4, window: 5, mark: 6, kept: "7=aa 9= 11=c", size: 3})
	}
	wantCome(t, s, 11, 8, "answered c")
	wantSeen(t, "looked at behind a mark", s, seen{id: 3, token: 4, window: 5, mark: 8, kept: "9= 11=c", size: 1})
}

// P10.4: Kept rises wherever the ring begins, whichever numbers have answers, in whatever order they came.
func TestKeptRises(t *testing.T) {
	for mark := range int64(130) {
		for _, window := range []int{1, 5, 63, 64} {
			s := of(t, window, mark, "")
			l := full(mark, window)
			for i := range l {
				k := l[(i*11+int(mark))%window] // 11 has no part in common with the windows: each of them once
				wantPut(t, s, k.Number, string(k.Answer), api.OK)
			}
			wantKept(t, "full", s, window, mark, texts(l))
			wantKept(t, "its ends alone", of(t, window, mark, texts(ends(l))), window, mark, texts(ends(l)))
		}
	}
}

func ends(l []api.Kept) []api.Kept {
	return slices.CompactFunc([]api.Kept{l[0], l[len(l)-1]}, func(a, b api.Kept) bool { return a.Number == b.Number })
}

// P10.4: Size is the bytes of what is kept alone, behind marks that reach none, some, all.
func TestSize(t *testing.T) {
	s := of(t, 4, 0, "")
	for i, x := range []struct {
		do   func()
		want int
	}{
		{func() {}, 0}, {func() { s.Put(1, []byte("aaa")) }, 3}, {func() { s.Put(2, nil) }, 3}, {func() { s.Put(4, []byte("dd")) }, 5}, {func() { s.Put(4, []byte("ddddd")) }, 5},
		{func() { s.Put(5, []byte("e")) }, 5}, {func() { s.Come(4, 0) }, 5}, {func() { s.Come(5, 1) }, 2}, {func() { s.Come(5, 3) }, 2}, {func() { s.Put(5, []byte("e")) }, 3}, {func() { s.Come(9, 8) }, 0},
	} {
		x.do()
		if got := s.Size(); got != x.want {
			t.Errorf("step %d: Size is %d, not %d", i, got, x.want)
		}
	}
}

// P10.4: a session without answers tells none.
func TestKeptOfNothing(t *testing.T) {
	if l := of(t, 4, 9, "").Kept(); l != nil {
		t.Errorf("Kept is %v", l)
	}
	s := of(t, 4, 9, "10=a")
	s.Come(11, 10)
	if l := s.Kept(); l != nil {
		t.Errorf("Kept behind a mark is %v", l)
	}
}

func wantSame(t *testing.T, what string, a, b *session.Session, want bool) {
	t.Helper()
	if got := a.Same(b); got != want {
		t.Errorf("%s: Same is %v", what, got)
	}
	if got := b.Same(a); got != want {
		t.Errorf("%s: Same the other way round is %v", what, got)
	}
}

// P10.4: a copy is another one like it.
func TestCopy(t *testing.T) {
	for _, s := range []*session.Session{of(t, 1, 0, ""), of(t, 4, 9, ""), of(t, 4, 9, "10=a 11= 13=d"), of(t, 64, 100, texts(full(100, 64))), of(t, 64, most, "")} {
		was := see(s)
		c := s.Copy()
		if c == s {
			t.Error("Copy is the same one")
		}
		wantSeen(t, "the copy", c, was)
		wantSeen(t, "the session", s, was)
		wantSame(t, "Copy", s, c, true)
		wantSame(t, "Copy of Copy", s, c.Copy(), true)
	}
}

// P10.4: both go on apart, whichever of them is changed.
func TestCopyGoesOnApart(t *testing.T) {
	const all = "10=a 11= 13=d"
	for i, x := range []struct {
		do   func(s *session.Session)
		mark int64
		kept string
	}{
		{func(s *session.Session) { s.Put(12, []byte("c")) }, 9, "10=a 11= 12=c 13=d"},
		{func(s *session.Session) { s.Come(13, 10) }, 10, "11= 13=d"},
		{func(s *session.Session) { s.Come(13, 10); s.Put(14, []byte("e")) }, 10, "11= 13=d 14=e"},
		{func(s *session.Session) { s.Come(99, 98) }, 98, ""},
		{func(s *session.Session) { s.Come(74, 73); s.Put(74, []byte("x")) }, 73, "74=x"},
	} {
		what := fmt.Sprintf("step %d", i)
		s := of(t, 4, 9, all)
		c := s.Copy()
		x.do(c)
		wantKept(t, what+": the session", s, 4, 9, all)
		wantKept(t, what+": the changed copy", c, 4, x.mark, x.kept)
		wantSame(t, what+": the session and its changed copy", s, c, false)

		c = s.Copy()
		x.do(s)
		wantKept(t, what+": the copy", c, 4, 9, all)
		wantKept(t, what+": the changed session", s, 4, x.mark, x.kept)
		x.do(c)
		wantSame(t, what+": both behind the same step", s, c, true)
	}
}

// P10.4: the same id, token, window, mark, and for the same numbers the same answers; all of it.
func TestSame(t *testing.T) {
	type parts struct {
		id, token int64
		window    int
		mark      int64
		kept      string
	}
	l := []parts{
		{1, 1, 4, 0, ""}, {2, 1, 4, 0, ""}, {1, 2, 4, 0, ""}, {1, 1, 5, 0, ""}, {1, 1, 64, 0, ""}, {1, 1, 4, 1, ""}, {1, 1, 4, 64, ""}, {2, 2, 4, 0, ""}, {most, 1, 4, 0, ""}, {1, most, 4, 0, ""}, {1, 1, 4, most, ""},
		{1, 1, 4, 0, "1=a"}, {1, 1, 4, 0, "1="}, {1, 1, 4, 0, "1=b"}, {1, 1, 4, 0, "1=aa"}, {1, 1, 4, 0, "2=a"}, {1, 1, 4, 0, "4=a"}, {1, 1, 4, 0, "1=a 2="}, {1, 1, 4, 0, "1= 2=a"}, {1, 1, 4, 0, "1=a 2=b"},
		{1, 1, 4, 0, "1=b 2=a"}, {1, 1, 4, 0, "1=a 2=b 3=c 4=d"}, {1, 1, 4, 0, "1=a 2=b 3=c 4=e"}, {1, 1, 4, 64, "65=a"}, {1, 1, 64, 1, "65=a"}, {1, 1, 64, 0, "1=a"}, {1, 1, 64, 64, "65=a"}, {1, 1, 64, 1, ""},
	}
	for i, a := range l {
		for j, b := range l {
			x, e := session.Of(a.id, a.token, a.window, a.mark, answers(a.kept)...)
			wantErrno(t, "Of", e, api.OK)
			y, e := session.Of(b.id, b.token, b.window, b.mark, answers(b.kept)...)
			wantErrno(t, "Of", e, api.OK)
			wantSame(t, fmt.Sprint(a, " and ", b), x, y, i == j)
		}
	}
	s := of(t, 4, 9, "10=a")
	wantSame(t, "a session and itself", s, s, true)
}

// P10.4: how it came there does not matter: what was forgotten leaves no trace, nor does what was refused.
func TestSameByOtherWays(t *testing.T) {
	s := of(t, 4, 0, "1=a 2=b 3=c 4=d")
	wantCome(t, s, 4, 3, "answered d")
	wantSame(t, "forgotten", s, of(t, 4, 3, "4=d"), true)
	wantPut(t, s, 4, "x", api.ErrFull)
	wantPut(t, s, 3, "x", api.ErrNone)
	wantPut(t, s, 8, "x", api.ErrNone)
	wantCome(t, s, 5, 5, "error 2")
	wantCome(t, s, 2, 1, "stale")
	wantCome(t, s, 8, 3, "ahead")
	wantCome(t, s, 5, 3, "new")
	wantSame(t, "refused", s, of(t, 4, 3, "4=d"), true)
	wantPut(t, s, 7, "g", api.OK)
	wantPut(t, s, 5, "", api.OK)
	wantSame(t, "put in another order", s, of(t, 4, 3, "4=d 5= 7=g"), true)
	wantCome(t, s, 68, 67, "new")
	wantSame(t, "all forgotten", s, of(t, 4, 67, ""), true)
}
