package snap_test

import (
	"bytes"
	"fmt"
	"math/rand"
	"testing"

	"wicket/api"
	"wicket/dedup"
	"wicket/snap"
)

// P12.2, P0.7: Get of Put is the same machine, and the number; Put of what Get answers are the bytes.
func TestThereAndBack(t *testing.T) {
	r := rand.New(rand.NewSource(1221))
	for range 600 {
		m, done := someMachine(t, r), someNumber(r)
		for _, m := range []*dedup.Machine{m, m.Copy(), someState(r).machine(t)} {
			b := put(t, m, done)
			o, n, e := snap.Get(b, m.Quota(), m.Window())
			if e != api.OK || n != done || !o.Same(m) || !m.Same(o) {
				t.Fatalf("Get of Put of %v: %d, %v", told(m, done), n, e)
			}
			if again := put(t, o, n); !bytes.Equal(again, b) {
				t.Fatalf("% x is % x when it is put again", b, again)
			}
			if n, e := snap.Done(b); n != done || e != api.OK {
				t.Fatalf("Done of Put of %v: %d, %v", told(m, done), n, e)
			}
		}
	}
}

// P12.2: what Get answers goes on as the machine that was put does, and both have the same snapshots by the way.
func TestGoesOnTheSame(t *testing.T) {
	r := rand.New(rand.NewSource(1222))
	for range 100 {
		m := someMachine(t, r)
		for done := range int64(40) {
			o, n, e := snap.Get(put(t, m, done), m.Quota(), m.Window())
			if e != api.OK || n != done {
				t.Fatalf("Get: %d, %v", n, e)
			}
			c := someCommand(t, r, m)
			a, e1 := m.Do(c)
			b, e2 := o.Do(c)
			if fmt.Sprint(a, e1) != fmt.Sprint(b, e2) || !bytes.Equal(put(t, m, done), put(t, o, done)) {
				t.Fatalf("%v: %v, %v; what was got: %v, %v", c, a, e1, b, e2)
			}
		}
	}
}

// P12.2: machines that are not the same have unlike snapshots, and those that are have like ones; so have numbers of entries.
func TestUnlike(t *testing.T) {
	r := rand.New(rand.NewSource(1223))
	var l []*dedup.Machine
	for range 60 {
		m := someMachine(t, r)
		c := m.Copy()
		c.Do(someCommand(t, r, m))
		l = append(l, m, c, someState(r).machine(t))
	}
	alike := 0
	for _, a := range l {
		for _, b := range l {
			same := bytes.Equal(put(t, a, 3), put(t, b, 3))
			if same != a.Same(b) {
				t.Fatalf("%v and %v: alike is %t", told(a, 3), told(b, 3), same)
			}
			if same {
				alike++
			}
			if bytes.Equal(put(t, a, 3), put(t, b, 4)) {
				t.Fatalf("%v and %v are alike", told(a, 3), told(b, 4))
			}
		}
	}
	if alike < len(l) || alike == len(l)*len(l) {
		t.Errorf("%d are alike", alike)
	}
}

// P12.2: each part of the state alone makes the snapshot another one.
func TestUnlikeByOnePart(t *testing.T) {
	all := []state{
		at(3, 2, 4, "t/a=1", "1/5/0 1=x"), at(4, 2, 4, "t/a=1", "1/5/0 1=x"), at(3, 3, 4, "t/a=1", "1/5/0 1=x"), at(3, 2, 5, "t/a=1", "1/5/0 1=x"),
		at(3, 2, 4, "u/a=1", "1/5/0 1=x"), at(3, 2, 4, "t/b=1", "1/5/0 1=x"), at(3, 2, 4, "t/a=2", "1/5/0 1=x"), at(3, 2, 4, "t/a=", "1/5/0 1=x"), at(3, 2, 4, "t/a1=", "1/5/0 1=x"), at(3, 2, 4, "", "1/5/0 1=x"),
		at(3, 2, 4, "t/a=1", "2/5/0 1=x"), at(3, 2, 4, "t/a=1", "1/6/0 1=x"), at(3, 2, 4, "t/a=1", "1/5/1"), at(3, 2, 4, "t/a=1", "1/5/0"), at(3, 2, 4, "t/a=1", "1/5/1 2=x"), at(3, 2, 4, "t/a=1", "1/5/0 2=x"),
		at(3, 2, 4, "t/a=1", "1/5/0 1="), at(3, 2, 4, "t/a=1", "1/5/0 1=y"), at(3, 2, 4, "t/a=1", "1/5/0 1=x 2="), at(3, 2, 4, "t/a=1", ""), at(3, 2, 4, "t/a=1", "1/5/0 1=x; 2/6/0"),
		{3, api.Quota{Rows: 9, Bytes: api.MaxSize}, 2, 4, rows("t/a=1"), living("1/5/0 1=x")}, {3, api.Quota{Rows: api.MaxRows, Bytes: 9}, 2, 4, rows("t/a=1"), living("1/5/0 1=x")},
	}
	for i, a := range all {
		for j, b := range all {
			if bytes.Equal(put(t, a.machine(t), a.done), put(t, b.machine(t), b.done)) != (i == j) {
				t.Errorf("%v and %v", a, b)
			}
		}
	}
}

// P12.2: a byte less, a byte more, a bit other of small snapshots, wherever it is.
func TestOtherBytes(t *testing.T) {
	for name, s := range edges() {
		b := s.snapshot()
		if len(b) > 400 {
			continue
		}
		for n := range b {
			wantNone(t, fmt.Sprintf("%s: the first %d bytes", name, n), b[:n], s.quota, s.window)
			wantNone(t, fmt.Sprintf("%s: without byte %d", name, n), append(bytes.Clone(b[:n]), b[n+1:]...), s.quota, s.window)
			for bit := range 8 {
				wrong := bytes.Clone(b)
				wrong[n] ^= 1 << bit
				wantNone(t, fmt.Sprintf("%s: bit %d of byte %d", name, bit, n), wrong, s.quota, s.window)
			}
		}
		for more := range 256 {
			wantNone(t, fmt.Sprintf("%s: %d behind", name, more), append(bytes.Clone(b), byte(more)), s.quota, s.window)
			wantNone(t, fmt.Sprintf("%s: %d ahead", name, more), append([]byte{byte(more)}, b...), s.quota, s.window)
		}
		wantGot(t, b, s)
	}
}

// P12.2: the same of one whose body has just 2^16 bytes, at some of its places.
func TestOtherBytesOfMany(t *testing.T) {
	r := rand.New(rand.NewSource(1224))
	s := at(3, 64, 2, "t/a=1", "1/5/0 1=")
	s.living[0].Kept[0].Answer = make([]byte, 1<<16-len(s.body())-2) // its length takes two bytes more
	r.Read(s.living[0].Kept[0].Answer)
	b := s.snapshot()
	if len(s.body()) != 1<<16 {
		t.Fatalf("the body has %d bytes", len(s.body()))
	}
	wantGot(t, b, s)
	for i := range 1500 {
		n := r.Intn(len(b))
		if i < 40 {
			n = i
		}
		wrong := bytes.Clone(b)
		wrong[n] ^= 1 << r.Intn(8)
		wantNone(t, fmt.Sprint("a bit of byte ", n), wrong, s.quota, s.window)
	}
	wantNone(t, "a byte less", b[:len(b)-1], s.quota, s.window)
	wantNone(t, "a byte more", append(bytes.Clone(b), 0), s.quota, s.window)
}

// wantRightOrNone: whatever the bytes are, they are refused, or are just the snapshot of what is read of them.
func wantRightOrNone(t testing.TB, b []byte, q api.Quota, window int) bool {
	t.Helper()
	done, e := snap.Done(b)
	m, n, e2 := snap.Get(b, q, window)
	switch {
	case e != api.OK:
		wantNone(t, fmt.Sprintf("% x", b), b, q, window)
		return false
	case e2 != api.OK:
		wantNotGot(t, fmt.Sprintf("% x", b), b, q, window)
		return false
	}
	if m.Quota() != q || m.Window() != window || n != done || !bytes.Equal(told(m, n).snapshot(), b) || !bytes.Equal(put(t, m, n), b) {
		t.Fatalf("% x is read as %v; Done is %d", b, told(m, n), done)
	}
	return true
}

// spoilt is the bytes with one or two places changed, left out, or put in.
func spoilt(r *rand.Rand, b []byte) []byte {
	b = bytes.Clone(b)
	for range 1 + r.Intn(2) {
		n := r.Intn(len(b))
		more := []byte{byte(r.Intn(256)), byte(r.Intn(4)), b[r.Intn(len(b))]}[r.Intn(3)]
		switch r.Intn(4) {
		case 0:
			b = append(b[:n], b[n+1:]...)
		case 1:
			b = append(b[:n], append([]byte{more}, b[n:]...)...)
		default:
			b[n] = more
		}
		if len(b) == 0 {
			break
		}
	}
	return b
}

// P12.1, P0.6, P0.7: any body in a right frame: what is not refused is just a snapshot. Some of them must be right, or nothing
// would be tried.
func TestAnyBody(t *testing.T) {
	r := rand.New(rand.NewSource(1225))
	right, wrong := 0, 0
	for range 1500 {
		s := told(someMachine(t, r), int64(r.Intn(70)))
		for range 20 {
			if wantRightOrNone(t, framed(2, spoilt(r, s.body())), s.quota, s.window) {
				right++
			} else {
				wrong++
			}
		}
	}
	if right < 3000 || wrong < 3000 {
		t.Errorf("%d were right, %d wrong", right, wrong)
	}
}

// P0.6: any short body at all; of these the least snapshots have seven bytes.
func TestShortBodies(t *testing.T) {
	q := api.Quota{Rows: 2, Bytes: 9}
	for n := range 7 {
		for a := range 256 {
			for _, b := range []byte{0, 1, 2, 9, 127, 128, 255} {
				wantNone(t, "a short body", framed(2, append(bytes.Repeat([]byte{b}, n), byte(a))[:n]), q, 2)
			}
		}
	}
	right := 0
	for place := range 7 {
		for a := range 256 {
			body := []byte("\x00\x02\x09\x02\x02\x00\x00")
			body[place] = byte(a)
			if wantRightOrNone(t, framed(2, body), q, 2) {
				right++
			}
		}
	}
	if right != 64+63+5 { // each number of entries, and each next id but 0, that has one byte; and as it was, at the five other places
		t.Errorf("%d were right", right)
	}
}

func FuzzAnyBody(f *testing.F) {
	f.Add([]byte("\x00\x02\x09\x02\x02\x00\x00"))
	for _, s := range edges() {
		if b := s.body(); len(b) < 400 {
			f.Add(b)
		}
	}
	f.Fuzz(func(t *testing.T, b []byte) {
		wantRightOrNone(t, b, wide, 64)
		framed := framed(2, b)
		if _, e := snap.Done(framed); e != api.OK {
			wantRightOrNone(t, framed, wide, 64)
			return
		}
		for window := 1; window <= api.MaxWindow; window++ {
			wantRightOrNone(t, framed, api.Quota{Rows: 2, Bytes: 9}, window)
			wantRightOrNone(t, framed, wide, window)
		}
	})
}
