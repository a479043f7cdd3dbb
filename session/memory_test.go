package session_test

import (
	"testing"

	"wicket/api"
	"wicket/session"
)

// spoil writes over bytes, and over the spare room behind them.
func spoil(b []byte) {
	b = b[:cap(b)]
	for i := range b {
		b[i] = '!'
	}
}

func spoilAll(l []api.Kept) {
	l = l[:cap(l)]
	for i := range l {
		spoil(l[i].Answer)
		l[i] = api.Kept{Number: -1, Answer: []byte("!")}
	}
}

// room is bytes with spare room behind them.
func room(text string) []byte {
	return []byte(text + "....")[:len(text)]
}

func wantRoom(t *testing.T, what string, b []byte, text string) {
	t.Helper()
	if got := string(b[:len(text)+4]); got != text+"...." || len(b) != len(text) {
		t.Errorf("%s: what was handed in is %q now", what, got)
	}
}

// What is handed in is not kept: what becomes of it later, spare room included, is not to be seen.
func TestHandedInIsNotKept(t *testing.T) {
	l := append(make([]api.Kept, 0, 4), api.Kept{Number: 10, Answer: room("a")}, api.Kept{Number: 12, Answer: room("")})
	s, e := session.Of(7, 9, 4, 9, l...)
	wantErrno(t, "Of", e, api.OK)
	spoilAll(l)
	wantKept(t, "behind Of", s, 4, 9, "10=a 12=")
	answer := room("bb")
	wantErrno(t, "Put", s.Put(11, answer), api.OK)
	c := s.Copy()
	spoil(answer)
	wantKept(t, "behind Put", s, 4, 9, "10=a 11=bb 12=")
	wantKept(t, "a copy behind Put", c, 4, 9, "10=a 11=bb 12=")
}

// What is handed in is not changed, spare room included, by whatever is done then or later, where it is refused too.
func TestHandedInIsNotChanged(t *testing.T) {
	first, second, spare, put, refused := room("a"), room("bb"), room("c"), room("d"), room("e")
	all := []api.Kept{{Number: 10, Answer: first}, {Number: 12, Answer: second}, {Number: 99, Answer: spare}}
	l := all[:2]
	s, _ := session.Of(7, 9, 4, 9, l...)
	none, e := session.Of(7, 9, 2, 9, l...)
	wantRefused(t, "a window that is too small", none, e)
	s.Put(11, put)
	s.Put(11, refused)
	s.Put(9, refused)
	s.Put(14, refused)
	spoilAll(s.Kept())
	_, answer, _ := s.Look(11)
	spoil(answer)
	s.Come(14, 12)
	s.Put(14, []byte("xyz"))
	for text, b := range map[string][]byte{"a": first, "bb": second, "c": spare, "d": put, "e": refused} {
		wantRoom(t, text, b, text)
	}
	if texts(all) != "10=a 12=bb 99=c" || &all[0].Answer[0] != &first[0] {
		t.Errorf("the list of answers is %q now", texts(all))
	}
}

// What is told is the caller's: neither the session, nor another answer, nor a copy has part of it.
func TestToldIsTheCallers(t *testing.T) {
	const all = "10=aa 11= 13=ddd"
	s := of(t, 4, 9, all)
	c := s.Copy()
	kept := s.Kept()
	_, looked, _ := s.Look(13)
	_, came, _ := s.Come(13, 0)
	for range 2 {
		for _, x := range []*session.Session{s, c, s.Copy()} {
			_, a, _ := x.Look(13)
			_, b, _ := x.Come(13, 9)
			spoil(a)
			spoil(b)
			_, a, _ = x.Look(11)
			spoil(a)
			spoilAll(x.Kept())
		}
		wantKept(t, "the session", s, 4, 9, all)
		wantKept(t, "its copy", c, 4, 9, all)
	}
	if texts(kept) != all || string(looked) != "ddd" || string(came) != "ddd" {
		t.Errorf("other answers are %q, %q, %q now", texts(kept), looked, came)
	}
}

// The parts of one answer share nothing, spare room included.
func TestPartsAreApart(t *testing.T) {
	l := of(t, 4, 9, "10=aa 11=b 12=cc 13=ddd").Kept()
	for i, rest := range []string{"11=b 12=cc 13=ddd", "12=cc 13=ddd", "13=ddd", ""} {
		spoil(l[i].Answer)
		if got := texts(l[i+1:]); got != rest {
			t.Errorf("behind a spoilt answer: %q, not %q", got, rest)
		}
	}
	l = of(t, 4, 9, "10=aa 11=b 12=cc 13=ddd").Kept()
	for i, rest := range []string{"", "10=aa", "10=aa 11=b", "10=aa 11=b 12=cc"} {
		_ = append(l[i].Answer, "!!!!"...)
		if got := texts(l[:i]); got != rest {
			t.Errorf("ahead of a longer answer: %q, not %q", got, rest)
		}
	}
}

// What was told stays as it was, whatever the session does then, also if other answers take the places in the ring.
func TestToldStaysAsItWas(t *testing.T) {
	s := of(t, 64, 0, texts(full(0, 64)))
	kept := s.Kept()
	want := texts(kept)
	_, answer, _ := s.Look(1)
	s.Come(128, 64)
	for number := int64(65); number <= 128; number++ {
		wantPut(t, s, number, "zz", api.OK)
	}
	if texts(kept) != want || string(answer) != "a0" {
		t.Errorf("what was told is %.100q, %q now", texts(kept), answer)
	}
}
