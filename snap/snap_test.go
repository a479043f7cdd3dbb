package snap_test

import (
	"bytes"
	"fmt"
	"math"
	"math/rand"
	"strings"
	"testing"

	"wicket/api"
	"wicket/dedup"
	"wicket/frame"
	"wicket/snap"
)

func put(t testing.TB, m *dedup.Machine, done int64) []byte {
	t.Helper()
	b, e := snap.Put(m, done)
	if e != api.OK {
		t.Fatalf("Put(%v, %d): %v", told(m, done), done, e)
	}
	return b
}

// wantGot: the bytes are a snapshot, and Get and Done tell what it is of.
func wantGot(t testing.TB, b []byte, s state) *dedup.Machine {
	t.Helper()
	m, n, e := snap.Get(b, s.quota, s.window)
	if e != api.OK || m == nil || n != s.done || !m.Same(s.machine(t)) {
		t.Fatalf("Get of %v: %d, %v", s, n, e)
	}
	if n, e := snap.Done(b); n != s.done || e != api.OK {
		t.Fatalf("Done of %v: %d, %v", s, n, e)
	}
	return m
}

// wantNotGot: Get refuses the bytes, with that quota and window, and tells nothing beside that.
func wantNotGot(t testing.TB, what string, b []byte, q api.Quota, window int) {
	t.Helper()
	if m, n, e := snap.Get(b, q, window); m != nil || n != 0 || e != api.ErrBytes {
		t.Errorf("%s: Get(%v, %d): %v, %d, %v", what, q, window, m, n, e)
	}
}

// wantNone: the bytes are no snapshot at all.
func wantNone(t testing.TB, what string, b []byte, q api.Quota, window int) {
	t.Helper()
	wantNotGot(t, what, b, q, window)
	if n, e := snap.Done(b); n != 0 || e != api.ErrBytes {
		t.Errorf("%s: Done: %d, %v", what, n, e)
	}
}

// The chapter's examples.
func TestExamples(t *testing.T) {
	q := api.Quota{Rows: 2, Bytes: 9}
	m, _ := dedup.New(q, 2)
	if b, e := snap.Put(nil, 0); b != nil || e != api.ErrNil {
		t.Errorf("Put(nil, 0): % x, %v", b, e)
	}
	if b, e := snap.Put(m, -1); b != nil || e != api.ErrArg {
		t.Errorf("Put(m, -1): % x, %v", b, e)
	}
	b := put(t, m, 0)
	if f, e := frame.One(b); e != api.OK || f.Kind != 2 || string(f.Body) != "\x00\x02\x09\x02\x02\x00\x00" {
		t.Errorf("the frame of Put(m, 0): %v, %v", f, e)
	}
	wantGot(t, b, state{0, q, 2, 1, nil, nil})
	wantNotGot(t, "with the window 3", b, q, 3)
	wantNone(t, "nothing", nil, q, 2)
}

// P12.1: snapshots written down by hand, byte by byte; their sums are told by layer 4 alone.
func TestBytesByHand(t *testing.T) {
	for body, s := range map[string]state{
		"\x00 \x02 \x09 \x02 \x02 \x00 \x00":                                                                                      {0, api.Quota{Rows: 2, Bytes: 9}, 2, 1, nil, nil},
		"\x02 \x01 \x01 \x01 \x04 \x00 \x00":                                                                                      {1, api.Quota{Rows: 1, Bytes: 1}, 1, 2, nil, nil},
		"\x80\x01 \xff\x1f \x80\x80\x40 \x40 \x80\x01 \x00 \x00":                                                                  {64, api.Quota{Rows: 4095, Bytes: 1 << 20}, 64, 64, nil, nil},
		"\x0a \x03 \x09 \x02 \x02 \x02 \x01t \x01a \x011 \x02u2 \x02ab \x00 \x00":                                                 {5, api.Quota{Rows: 3, Bytes: 9}, 2, 1, rows("t/a=1 u2/ab="), nil},
		"\x0a \x03 \x09 \x02 \x08 \x00 \x02 \x02 \x0a \x00 \x02 \x02 \x01x \x04 \x00 \x06 \x0c \x0e \x01 \x10 \x03xyz":            {5, api.Quota{Rows: 3, Bytes: 9}, 2, 4, nil, living("1/5/0 1=x 2=; 3/6/7 8=xyz")},
		"\x00 \x03 \x09 \x02 \x80\x02 \x01 \x01t \x01a \x00 \x01 \xfe\x01 \xfe\xff\xff\xff\xff\xff\xff\xff\xff\x01 \x80\x01 \x00": {0, api.Quota{Rows: 3, Bytes: 9}, 2, 128, rows("t/a="), []api.Living{{Id: 127, Token: most, Mark: 64}}},
	} {
		want, e := frame.Put(2, []byte(strings.ReplaceAll(body, " ", "")))
		if b := put(t, s.machine(t), s.done); !bytes.Equal(b, want) || e != api.OK {
			t.Errorf("Put of %v: % x, want % x", s, b, want)
		}
		wantGot(t, want, s)
	}
}

// P12.1: Put of machines that any commands left, and of any states, against the words.
func TestPutIsTheSnapshot(t *testing.T) {
	r := rand.New(rand.NewSource(1201))
	for range 600 {
		s := someState(r)
		if b := put(t, s.machine(t), s.done); !bytes.Equal(b, s.snapshot()) {
			t.Fatalf("Put of %v: % x, want % x", s, b, s.snapshot())
		}
		m := someMachine(t, r)
		done := someNumber(r)
		if b, want := put(t, m, done), told(m, done).snapshot(); !bytes.Equal(b, want) {
			t.Fatalf("Put of %v: % x, want % x", told(m, done), b, want)
		}
	}
}

// P12.1: without a machine ErrNil, whatever the number; a number below 0 is ErrArg; nothing is told beside them.
func TestPutRefuses(t *testing.T) {
	refused, _ := dedup.New(api.Quota{}, 2)
	notMade, _ := dedup.Of(wide, 2, nil, 1, api.Living{Id: 1, Token: 1})
	none := (*dedup.Machine)(nil)
	for name, m := range map[string]*dedup.Machine{"nil": nil, "refused": refused, "not made": notMade, "zero": {}, "copied": none.Copy()} {
		for _, n := range []int64{math.MinInt64, -1, 0, 1, most} {
			if b, e := snap.Put(m, n); b != nil || e != api.ErrNil {
				t.Errorf("%s: Put(%d): % x, %v", name, n, b, e)
			}
		}
	}
	for _, s := range []state{{0, api.Quota{Rows: 2, Bytes: 9}, 2, 1, nil, nil}, at(0, 2, 4, "t/a=1", "1/5/0 1=x")} {
		m := s.machine(t)
		for _, n := range []int64{math.MinInt64, math.MinInt64 + 1, -lastNext, -2, -1} {
			if b, e := snap.Put(m, n); b != nil || e != api.ErrArg {
				t.Errorf("Put(%d): % x, %v", n, b, e)
			}
		}
		if !m.Same(s.machine(t)) {
			t.Errorf("%v is another one now", s)
		}
	}
}

// edges are states at the bounds that the document names.
func edges() map[string]state {
	l := map[string]state{
		"the least":            {0, api.Quota{Rows: 1, Bytes: 1}, 1, 1, nil, nil},
		"the most entries":     {most, wide, 64, 1, nil, nil},
		"the last next":        at(1, 64, lastNext, "", ""),
		"the last id":          at(1, 64, lastNext, "", fmt.Sprintf("%d/%d/%d", lastNext-1, most, most)),
		"the last numbers":     at(1, 2, 9, "", fmt.Sprintf("7/1/%d %d=a %d=b; 8/2/%d %d=c", most-2, most-1, most, most-1, most)),
		"a full quota":         {3, api.Quota{Rows: 2, Bytes: 5}, 1, 1, rows("t/a=11 t/b=2"), nil},
		"a key and no value":   {3, api.Quota{Rows: 1, Bytes: 1}, 1, 1, rows("t/a="), nil},
		"any bytes":            {3, wide, 2, 3, []api.Named{{Table: "0", Key: []byte{0}, Value: []byte{0, 255}}, {Table: "0", Key: []byte{0, 0}}, {Table: "0", Key: []byte{255}}}, nil},
		"long bytes":           {3, wide, 2, 3, []api.Named{{Table: strings.Repeat("z", 16), Key: bytes.Repeat([]byte{255}, 64), Value: bytes.Repeat([]byte{0}, 256)}}, nil},
		"an answer of nothing": at(0, 1, 2, "", "1/1/0 1="),
		"no answers":           at(0, 1, 2, "", "1/1/0"),
	}
	var many, full state
	many = at(0, 1, 9999, "", "")
	for i := range 4096 {
		many.rows = append(many.rows, api.Named{Table: "t", Key: fmt.Appendf(nil, "%04d", i), Value: make([]byte, 252)})
	}
	l["many rows, and their size the greatest"] = many
	full = at(most, 64, 257, "t/a=1", "")
	for i := range int64(256) {
		s := api.Living{Id: i + 1, Token: 256 - i, Mark: i * 1000}
		for n := range int64(64) {
			s.Kept = append(s.Kept, api.Kept{Number: s.Mark + 1 + n, Answer: bytes.Repeat([]byte{byte(n)}, int(n%3))})
		}
		full.living = append(full.living, s)
	}
	l["many sessions, with many answers"] = full
	long := at(1, 2, 3, "", "")
	for i := range int64(2) {
		long.living = append(long.living, api.Living{Id: i + 1, Token: i + 1, Kept: []api.Kept{{Number: 1, Answer: bytes.Repeat([]byte("long"), 1<<18+1)}, {Number: 2}}})
	}
	l["answers that are longer than any result, and than a database may be"] = long
	return l
}

// P12.1: what the document's bounds just take goes, there and back.
func TestEdges(t *testing.T) {
	for name, s := range edges() {
		t.Run(name, func(t *testing.T) {
			b := put(t, s.machine(t), s.done)
			if !bytes.Equal(b, s.snapshot()) {
				t.Errorf("Put of %v: %.300x", s, b)
			}
			wantGot(t, b, s)
		})
	}
}

// P12.1: Get with another quota or window, whether these may be or not, is ErrBytes; Done does not ask for them.
func TestAnotherQuotaOrWindow(t *testing.T) {
	s := state{7, api.Quota{Rows: 3, Bytes: 9}, 2, 4, rows("t/a=1 t/b=2"), living("1/5/0 1=x")}
	b := s.snapshot()
	for _, rows := range []int{math.MinInt, -3, -1, 0, 1, 2, 3, 4, 9, 4096, 4097, 3 + 1<<32, math.MaxInt} {
		for _, size := range []int{math.MinInt, -9, 0, 1, 3, 4, 8, 9, 10, 1 << 20, 1<<20 + 1, 9 + 1<<32, math.MaxInt} {
			for _, window := range []int{math.MinInt, -2, -1, 0, 1, 2, 3, 64, 65, 2 + 1<<32, math.MaxInt} {
				if q := (api.Quota{Rows: rows, Bytes: size}); q != s.quota || window != s.window {
					wantNotGot(t, "another one", b, q, window)
				}
			}
		}
	}
	wantGot(t, b, s)
	for _, q := range []api.Quota{{Rows: 1, Bytes: 1}, {Rows: 4096, Bytes: 1}, {Rows: 1, Bytes: 1 << 20}, wide} {
		for window := 1; window <= 64; window++ {
			wantGot(t, state{int64(window), q, window, 1, nil, nil}.snapshot(), state{int64(window), q, window, 1, nil, nil})
		}
	}
}

// P12.1, P0.6: bytes that are no frame, no single one, or one of another kind.
func TestNoSnapshotsFrame(t *testing.T) {
	s := at(3, 2, 4, "t/a=1", "1/5/0 1=x")
	b := s.snapshot()
	wantGot(t, b, s)
	for what, wrong := range map[string][]byte{
		"nothing":          {},
		"a byte":           {2},
		"nine bytes 0":     make([]byte, 9),
		"no body":          framed(2, nil),
		"its body alone":   s.body(),
		"two of them":      append(bytes.Clone(b), b...),
		"a frame behind":   append(bytes.Clone(b), framed(2, nil)...),
		"a frame ahead":    append(framed(1, nil), b...),
		"a frame within":   framed(2, b),
		"another sum":      append(append(bytes.Clone(b[:5]), 1, 2, 3, 4), b[9:]...),
		"a length of much": {2, 127, 255, 255, 255, 0, 0, 0, 0},
		"a length of more": {2, 255, 255, 255, 255, 0, 0, 0, 0},
	} {
		wantNone(t, what, wrong, s.quota, s.window)
	}
	for kind := range 256 {
		if kind != 2 {
			wantNone(t, fmt.Sprint("the kind ", kind), framed(byte(kind), s.body()), s.quota, s.window)
		}
	}
}
