package snap_test

import (
	"bytes"
	"testing"

	"wicket/api"
	"wicket/snap"
)

// spoil writes over bytes, and over the spare room behind them.
func spoil(b []byte) {
	b = b[:cap(b)]
	for i := range b {
		b[i] = '!'
	}
}

// What is handed in is not changed, spare room included, where it is refused too.
func TestHandedInIsNotChanged(t *testing.T) {
	s := at(3, 2, 4, "t/a=1 u/b=", "1/5/0 1=x; 2/6/7 8=yy 9=")
	m := s.machine(t)
	spoil(put(t, m, 3))
	snap.Put(m, -1)
	if !m.Same(s.machine(t)) || !bytes.Equal(put(t, m, 3), s.snapshot()) {
		t.Errorf("the machine is another one now: %v", told(m, 3))
	}
	for _, text := range [][]byte{s.snapshot(), s.snapshot()[:20], framed(1, s.body()), framed(2, s.body()[1:]), nil} {
		b := append(bytes.Clone(text), "...."...)
		snap.Get(b[:len(text)], s.quota, s.window)
		snap.Get(b[:len(text)], s.quota, 3)
		snap.Done(b[:len(text)])
		if !bytes.Equal(b, append(bytes.Clone(text), "...."...)) {
			t.Errorf("% x: what was handed in is % x now", text, b)
		}
	}
}

// What is handed in is not kept: what becomes of it later is not to be seen in what was answered.
func TestHandedInIsNotKept(t *testing.T) {
	s := at(3, 2, 4, "t/a=1 u/b=", "1/5/0 1=x; 2/6/7 8=yy 9=")
	b := s.snapshot()
	m := wantGot(t, b, s)
	spoil(b)
	if !m.Same(s.machine(t)) {
		t.Errorf("what was got is %v now", told(m, 3))
	}
	b = put(t, m, 3)
	m.Do(api.Command{Kind: api.CommandClose, Session: 1})
	m.Do(api.Command{Kind: api.CommandOpen, Token: 9})
	if !bytes.Equal(b, s.snapshot()) {
		t.Errorf("what was put is % x now", b)
	}
}

// What is told is the caller's: no other answer has part of it.
func TestToldIsTheCallers(t *testing.T) {
	s := at(3, 2, 4, "t/a=1 u/b=", "1/5/0 1=x; 2/6/7 8=yy 9=")
	m := s.machine(t)
	first, second := put(t, m, 3), put(t, m, 3)
	spoil(first)
	if !bytes.Equal(second, s.snapshot()) {
		t.Errorf("another Put's bytes are % x now", second)
	}
	a, b := wantGot(t, second, s), wantGot(t, second, s)
	a.Do(api.Command{Kind: api.CommandClose, Session: 1})
	a.Do(api.Command{Kind: api.CommandOpen, Token: 9})
	a.Do(api.Command{Kind: api.CommandCall, Session: 2, Number: 9, Mark: 8, Call: api.Call{Ops: []api.Op{{Kind: api.Get, Table: "t", Key: []byte("a")}}}})
	if a.Same(b) || !b.Same(s.machine(t)) {
		t.Errorf("what another Get answered is %v now", told(b, 3))
	}
	wantGot(t, second, s)
}
