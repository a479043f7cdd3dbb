package frame_test

import (
	"math/rand"
	"testing"

	"wicket/api"
	"wicket/frame"
)

// plainFirst is the frame that is a beginning of b, found by trying each length.
func plainFirst(b string) (told, bool) {
	for n := range len(b) - 8 {
		f := told{int(b[0]), b[9 : 9+n]}
		if b[:9+n] == byWords(f.kind, f.body) {
			return f, true
		}
	}
	return told{}, false
}

// plainEnd is how bytes end that have no frame at their beginning.
func plainEnd(b string) api.Errno {
	if b == "" {
		return api.OK
	}
	if len(b) < 9 {
		return api.ErrTorn
	}
	length := 0
	for _, x := range []byte(b[1:5]) {
		length = 256*length + int(x)
	}
	if length <= 2147483647 && len(b) < 9+length {
		return api.ErrTorn
	}
	return api.ErrBad
}

// plainScan is what the chapter's section 'Words' says of bytes.
func plainScan(b string) (l []placed, good int, e api.Errno) {
	for {
		f, ok := plainFirst(b[good:])
		if !ok {
			return l, good, plainEnd(b[good:])
		}
		l = append(l, placed{good, f})
		good += 9 + len(f.body)
	}
}

// harmed is b with some bytes changed, taken out, put in, doubled or cut off.
func harmed(r *rand.Rand, b string) string {
	from, to := r.Intn(len(b)+1), r.Intn(len(b)+1)
	from, to = min(from, to), min(max(from, to), min(from, to)+12)
	switch r.Intn(7) {
	case 0:
		return b[:from]
	case 1:
		return b[:from] + b[to:]
	case 2:
		return b[:to] + b[from:]
	case 3:
		return b[:from] + someText(r, r.Intn(12)) + b[from:]
	case 4:
		return b[:from] + someText(r, to-from) + b[to:]
	case 5:
		return b[:from] + "\x01\x7f\xff\xff\xff"[:r.Intn(6)] + b[to:]
	}
	return b
}

// P4.2: of frames, whole and harmed, and of any bytes, Scan, All and One tell what the words say.
func TestBytesAreAsTheWordsSay(t *testing.T) {
	r := rand.New(rand.NewSource(46))
	ends := map[api.Errno]int{}
	for i := range 3000 {
		b := putAll(t, someFrames(r, r.Intn(5), 12))
		if i%10 == 0 {
			b = someText(r, r.Intn(40))
		}
		for range r.Intn(3) {
			b = harmed(r, b)
		}
		l, good, e := plainScan(b)
		var want []told
		for _, f := range l {
			want = append(want, f.told)
		}
		wantScan(t, "some bytes", b, good, e, want...)
		wantAll(t, "some bytes", frame.All([]byte(b)), l...)
		if len(l) == 1 && good == len(b) {
			wantOne(t, "some bytes", b, want[0])
		} else {
			wantNotOne(t, "some bytes", b)
		}
		ends[e]++
	}
	for _, e := range []api.Errno{api.OK, api.ErrTorn, api.ErrBad} {
		if ends[e] < 200 {
			t.Errorf("only %d of the bytes end with %v", ends[e], e)
		}
	}
}

// P4.1: of any frames PutAll is what the words say.
func TestFramesAreAsTheWordsSay(t *testing.T) {
	r := rand.New(rand.NewSource(47))
	for i := range 500 {
		l := someFrames(r, i%7, 30)
		var want string
		for _, f := range l {
			want += byWords(f.Kind, string(f.Body))
		}
		if i%5 == 4 && len(l) > 0 {
			l[r.Intn(len(l))].Kind = []int{-1, 256, -1 - r.Intn(1<<30), 256 + r.Intn(1<<30)}[r.Intn(4)]
			b, e := frame.PutAll(l...)
			wantRefused(t, "PutAll with a wrong kind", b, e, api.ErrArg)
			continue
		}
		b, e := frame.PutAll(l...)
		wantBytes(t, "PutAll", b, e, want)
	}
}
