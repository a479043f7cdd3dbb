package frame_test

import (
	"encoding/binary"
	"fmt"
	"hash/crc32"
	"math"
	"slices"
	"strings"
	"testing"

	"wicket/api"
	"wicket/frame"
)

// byWords is the frame as the chapter's section 'Words' says it, by the library's CRC-32C.
func byWords(kind int, body string) string {
	b := binary.BigEndian.AppendUint32([]byte{byte(kind)}, uint32(len(body)))
	sum := crc32.Checksum([]byte(string(b)+body), crc32.MakeTable(crc32.Castagnoli))
	return string(binary.BigEndian.AppendUint32(b, sum)) + body
}

func one(kind int, body string) api.Frame {
	return api.Frame{Kind: kind, Body: []byte(body)}
}

// told is a frame in a form that can be held against another one.
type told struct {
	kind int
	body string
}

func (f told) String() string {
	return fmt.Sprintf("%d %.20q of %d", f.kind, f.body, len(f.body))
}

func tell(l []api.Frame) []told {
	var all []told
	for _, f := range l {
		all = append(all, told{f.Kind, string(f.Body)})
	}
	return all
}

func wantBytes(t *testing.T, what string, got []byte, e api.Errno, want string) {
	t.Helper()
	if string(got) != want || e != api.OK {
		t.Errorf("%s: %.40q of %d, %v; want %.40q of %d", what, got, len(got), e, want, len(want))
	}
}

func wantRefused(t *testing.T, what string, got []byte, e, want api.Errno) {
	t.Helper()
	if got != nil || e != want {
		t.Errorf("%s: %.40q, %v; want none, %v", what, got, e, want)
	}
}

func wantScan(t *testing.T, what, b string, good int, e api.Errno, want ...told) {
	t.Helper()
	l, n, got := frame.Scan([]byte(b))
	if !slices.Equal(tell(l), want) || n != good || got != e {
		t.Errorf("Scan of %s: %.5v of %d, %d, %v; want %.5v of %d, %d, %v", what, tell(l), len(l), n, got, want, len(want), good, e)
	}
}

// The chapter's examples, row by row; the sums are those of the library's CRC-32C.
func TestExamples(t *testing.T) {
	b, e := frame.Put(0, nil)
	wantBytes(t, "Put(0, nothing)", b, e, "\x00\x00\x00\x00\x00\x45\x72\x76\x35")
	b, e = frame.Put(1, []byte("a"))
	wantBytes(t, "Put(1, a)", b, e, "\x01\x00\x00\x00\x01\x38\x15\x9f\x85a")

	b, e = frame.Put(256, nil)
	wantRefused(t, "Put(256, nothing)", b, e, api.ErrArg)
	b, e = frame.Put(-1, nil)
	wantRefused(t, "Put(-1, nothing)", b, e, api.ErrArg)

	a := byWords(1, "a")
	wantScan(t, "nothing", "", 0, api.OK)
	wantScan(t, "a frame", a, 10, api.OK, told{1, "a"})
	wantScan(t, "a frame and 00 00", a+"\x00\x00", 10, api.ErrTorn, told{1, "a"})

	wantScan(t, "nine bytes 0", strings.Repeat("\x00", 9), 0, api.ErrBad)
	wantScan(t, "a length above MaxBody", "\x01\x80\x00\x00\x00abcd", 0, api.ErrBad)
	wantScan(t, "a length of MaxBody", "\x01\x7f\xff\xff\xffabcd", 0, api.ErrTorn)
}

// P4.1: the frame of each kind, and of bodies whose lengths fill each of the four bytes but the highest one.
func TestPut(t *testing.T) {
	for kind := range 256 {
		b, e := frame.Put(kind, nil)
		wantBytes(t, "Put of nil", b, e, byWords(kind, ""))
		b, e = frame.Put(kind, []byte{})
		wantBytes(t, "Put of nothing", b, e, byWords(kind, ""))
		b, e = frame.Put(kind, []byte("body"))
		wantBytes(t, "Put of a body", b, e, byWords(kind, "body"))
	}
	for _, n := range []int{1, 2, 8, 9, 10, 255, 256, 257, 65535, 65536, 65537, 1<<24 - 1, 1 << 24} {
		body := strings.Repeat("\x00x\xff", n/3+1)[:n]
		b, e := frame.Put(7, []byte(body))
		wantBytes(t, "Put of a long body", b, e, byWords(7, body))
	}
	b, e := frame.Put(2, []byte("123456789"))
	if e != api.OK || len(b) != 18 || string(b[:5]) != "\x02\x00\x00\x00\x09" || string(b[9:]) != "123456789" {
		t.Errorf("Put(2, 123456789) is % x, %v", b, e)
	}
}

// P4.1: kinds that may not be, whatever the body, just beyond the edges and far beyond them.
func TestWrongKinds(t *testing.T) {
	for _, kind := range []int{math.MinInt, math.MinInt32, -65536, -256, -255, -1, 256, 257, 511, 512, 65536, math.MaxInt32, math.MaxInt - 255, math.MaxInt} {
		for _, body := range [][]byte{nil, {}, []byte("a"), make([]byte, 300)} {
			b, e := frame.Put(kind, body)
			wantRefused(t, "Put", b, e, api.ErrArg)
			for place := range 4 {
				l := []api.Frame{one(0, ""), one(255, "b"), one(1, "c"), one(2, "")}
				l[place] = api.Frame{Kind: kind, Body: body}
				b, e = frame.PutAll(l...)
				wantRefused(t, "PutAll", b, e, api.ErrArg)
			}
		}
	}
}

// P4.1: all frames, one behind the other; none at all are no bytes.
func TestPutAll(t *testing.T) {
	b, e := frame.PutAll()
	wantBytes(t, "PutAll of none", b, e, "")
	b, e = frame.PutAll([]api.Frame{}...)
	wantBytes(t, "PutAll of an empty list", b, e, "")
	b, e = frame.PutAll(api.Frame{})
	wantBytes(t, "PutAll of a zero frame", b, e, byWords(0, ""))
	b, e = frame.PutAll(one(3, "xyz"))
	wantBytes(t, "PutAll of one", b, e, byWords(3, "xyz"))
	b, e = frame.PutAll(one(255, ""), one(0, "a"), api.Frame{Kind: 9}, one(0, "a"), one(255, "bc"))
	wantBytes(t, "PutAll of five", b, e, byWords(255, "")+byWords(0, "a")+byWords(9, "")+byWords(0, "a")+byWords(255, "bc"))

	var l []api.Frame
	var want strings.Builder
	for i := range 50000 {
		l = append(l, one(i%256, "abc"[:i%4]))
		want.WriteString(byWords(i%256, "abc"[:i%4]))
	}
	b, e = frame.PutAll(l...)
	wantBytes(t, "PutAll of many", b, e, want.String())
}

// P4.1: a body above MaxBody, and a wrong kind ahead of it wherever both stand. Nobody writes to these bytes, so they
// take no memory but on paper.
func TestLongBodies(t *testing.T) {
	if math.MaxInt == math.MaxInt32 {
		t.Skip("no body is so long here")
	}
	most := api.MaxBody
	long := make([]byte, most+1)
	b, e := frame.Put(0, long)
	wantRefused(t, "Put of a long body", b, e, api.ErrLong)
	b, e = frame.Put(255, long)
	wantRefused(t, "Put of a long body", b, e, api.ErrLong)
	for _, kind := range []int{-1, 256} {
		b, e = frame.Put(kind, long)
		wantRefused(t, "Put of a wrong kind and a long body", b, e, api.ErrArg)
		b, e = frame.PutAll(api.Frame{Body: long}, one(kind, "a"))
		wantRefused(t, "PutAll of a long body and a wrong kind behind it", b, e, api.ErrArg)
		b, e = frame.PutAll(one(kind, "a"), api.Frame{Body: long})
		wantRefused(t, "PutAll of a wrong kind and a long body behind it", b, e, api.ErrArg)
		b, e = frame.PutAll(api.Frame{Body: long}, one(1, "a"), api.Frame{Body: long}, one(kind, ""), one(2, ""))
		wantRefused(t, "PutAll of two long bodies and a wrong kind", b, e, api.ErrArg)
	}
	for place := range 3 {
		l := []api.Frame{one(1, "a"), one(2, ""), one(255, "c")}
		l[place].Body = long
		b, e = frame.PutAll(l...)
		wantRefused(t, "PutAll with a long body", b, e, api.ErrLong)
	}
	if n := frame.Size(long); n != most+10 {
		t.Errorf("Size of a long body is %d", n)
	}
}

// P4.1: Size is 9 and the body's bytes, and how many bytes Put makes.
func TestSize(t *testing.T) {
	if a, b := frame.Size(nil), frame.Size([]byte{}); a != 9 || b != 9 {
		t.Errorf("Size of no body is %d, %d", a, b)
	}
	for _, n := range []int{1, 2, 9, 255, 256, 65536, 1 << 20} {
		body := make([]byte, n, n+5)
		b, _ := frame.Put(1, body)
		if got := frame.Size(body); got != 9+n || got != len(b) {
			t.Errorf("Size of %d bytes is %d, its frame has %d", n, got, len(b))
		}
	}
}
