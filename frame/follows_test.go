package frame_test

import (
	"math/rand"
	"slices"
	"testing"

	"wicket/api"
	"wicket/frame"
)

func someText(r *rand.Rand, n int) string {
	b := make([]byte, n)
	r.Read(b)
	if r.Intn(3) == 0 {
		clear(b[:r.Intn(n+1)]) // noughts look like headers of empty frames
	}
	return string(b)
}

func someFrames(r *rand.Rand, many, most int) []api.Frame {
	var l []api.Frame
	for range many {
		l = append(l, one(r.Intn(256), someText(r, r.Intn(most+1))))
	}
	return l
}

func putAll(t *testing.T, l []api.Frame) string {
	t.Helper()
	b, e := frame.PutAll(l...)
	if e != api.OK {
		t.Fatalf("PutAll of %d frames: %v", len(l), e)
	}
	return string(b)
}

// P4.3: Scan of PutAll is the frames, all bytes good, OK; All tells them with their places, and One a single one.
func TestScanOfPutAll(t *testing.T) {
	r := rand.New(rand.NewSource(41))
	for i := range 400 {
		l := someFrames(r, i%9, 40)
		b := putAll(t, l)
		wantScan(t, "PutAll", b, len(b), api.OK, tell(l)...)
		var want []placed
		place := 0
		for _, f := range tell(l) {
			want = append(want, placed{place, f})
			place += frame.Size([]byte(f.body))
			wantOne(t, "Put", putAll(t, []api.Frame{one(f.kind, f.body)}), f)
		}
		wantAll(t, "PutAll", frame.All([]byte(b)), want...)
		if len(l) != 1 {
			wantNotOne(t, "none or many", b)
		}
	}
	wantScan(t, "PutAll of none", putAll(t, nil), 0, api.OK)
}

// P4.3: of each beginning the frames that are whole in it; OK where it ends with one, else ErrTorn.
func TestBeginnings(t *testing.T) {
	r := rand.New(rand.NewSource(42))
	cases := [][]api.Frame{{one(0, "")}, {one(0, ""), one(0, "")}, {one(255, "\xff\xff\xff\xff\xff\xff\xff\xff\xff")}, {one(1, string(make([]byte, 300)))}}
	for i := range 60 {
		cases = append(cases, someFrames(r, i%6, 30))
	}
	for _, l := range cases {
		b := putAll(t, l)
		whole, good := 0, 0
		for cut := range len(b) + 1 {
			e := api.ErrTorn
			if whole < len(l) && cut == good+frame.Size(l[whole].Body) {
				good = cut
				whole++
			}
			if cut == good {
				e = api.OK
			}
			wantScan(t, "a beginning", b[:cut], good, e, tell(l[:whole])...)
			if whole == 1 && cut == good {
				wantOne(t, "a first frame", b[:cut], told{l[0].Kind, string(l[0].Body)})
			} else {
				wantNotOne(t, "a beginning", b[:cut])
			}
		}
		if whole != len(l) {
			t.Fatalf("%d of %d frames were met", whole, len(l))
		}
	}
}

// turned is b with one bit other.
func turned(b string, bit int) string {
	c := []byte(b)
	c[bit/8] ^= 1 << (bit % 8)
	return string(c)
}

// P4.3: with one bit of a frame other, One is ErrBytes: each bit of short frames.
func TestEachBit(t *testing.T) {
	r := rand.New(rand.NewSource(43))
	frames := []told{{0, ""}, {255, ""}, {0, "\x00"}, {1, "a"}, {0, string(make([]byte, 40))}, {255, "\xff\xff\xff\xff"}, {3, byWords(3, "x")}}
	for n := range 40 {
		frames = append(frames, told{r.Intn(256), someText(r, n)})
	}
	for _, f := range frames {
		b := byWords(f.kind, f.body)
		wantOne(t, "the frame", b, f)
		for bit := range 8 * len(b) {
			wrong := turned(b, bit)
			wantNotOne(t, "a frame with a bit other", wrong)
			if l, good, e := frame.Scan([]byte(wrong)); len(l) != 0 || good != 0 || (e != api.ErrTorn && e != api.ErrBad) {
				t.Errorf("Scan of %v with bit %d other: %v, %d, %v", f, bit, tell(l), good, e)
			}
			wantAll(t, "a frame with a bit other", frame.All([]byte(wrong)))
		}
	}
}

// P4.3: the same of long bodies, up to 2^16 bytes: each bit of the header, and bits spread over the body.
func TestBitsOfLongBodies(t *testing.T) {
	r := rand.New(rand.NewSource(44))
	for _, n := range []int{255, 256, 1000, 4096, 65535, 65536} {
		f := told{r.Intn(256), someText(r, n)}
		b := byWords(f.kind, f.body)
		bits := []int{72, 8*len(b) - 8, 8*len(b) - 1}
		for bit := range 72 {
			bits = append(bits, bit)
		}
		for range 60 {
			bits = append(bits, r.Intn(8*len(b)))
		}
		for _, bit := range bits {
			wantNotOne(t, "a long frame with a bit other", turned(b, bit))
		}
		wantOne(t, "the frame", b, f)
	}
}

// P4.2: what is scanned is just what is put: bytes of which frames were told are those frames' bytes.
func TestPutAllOfScan(t *testing.T) {
	r := rand.New(rand.NewSource(45))
	for i := range 200 {
		b := []byte(putAll(t, someFrames(r, i%5, 20)) + someText(r, i%30))
		l, good, _ := frame.Scan(b)
		again, e := frame.PutAll(l...)
		if e != api.OK || !slices.Equal(again, b[:good]) {
			t.Errorf("PutAll of Scan: %.40q, %v; want %.40q", again, e, b[:good])
		}
	}
}
