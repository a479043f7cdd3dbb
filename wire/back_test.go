package wire_test

import (
	"bytes"
	"math"
	"slices"
	"strings"
	"testing"

	"wicket/api"
	"wicket/wire"
)

// edges are 0, and each power of two with both its neighbours.
func edges() []uint64 {
	l := []uint64{0, 300, 1000000007, math.MaxUint64}
	for shift := range 64 {
		l = append(l, 1<<shift-1, 1<<shift, 1<<shift+1)
	}
	return l
}

// P1.5: what was written is read as it was, alone and with bytes behind it.
func TestWrittenIsRead(t *testing.T) {
	for _, n := range edges() {
		wantRead(t, string(wire.Number(n)), (*wire.Reader).Number, n)
		wantRead(t, string(wire.Signed(int64(n))), (*wire.Reader).Signed, int64(n))
		wantRead(t, string(wire.Signed(-int64(n))), (*wire.Reader).Signed, -int64(n))
	}
	for n := range 1 << 16 {
		wantRead(t, string(wire.Number(uint64(n))), (*wire.Reader).Number, uint64(n))
		wantRead(t, string(wire.Signed(int64(n-1<<15))), (*wire.Reader).Signed, int64(n-1<<15))
	}
	for _, is := range []bool{false, true} {
		wantRead(t, string(wire.Flag(is)), (*wire.Reader).Flag, is)
	}
	for n := range 400 {
		text := strings.Repeat("\xff\x00x", n)[:n]
		wantRead(t, string(wire.Bytes([]byte(text))), bytesUpTo(n), text)
	}
}

func TestWrittenListIsRead(t *testing.T) {
	form, _ := wire.Put(edges(), wire.Number)
	l, e := wire.Take(wire.Open(form), len(edges()), (*wire.Reader).Number)
	if !slices.Equal(l, edges()) || e != api.OK {
		t.Errorf("numbers are read as %v, %v", l, e)
	}
	texts := [][]byte{[]byte("a"), nil, []byte("\x80\x00"), bytes.Repeat([]byte("b"), 128)}
	form, _ = wire.Put(texts, wire.Bytes)
	r := wire.Open(form)
	got, e := wire.Take(r, 4, func(r *wire.Reader) ([]byte, api.Errno) { return r.Bytes(128) })
	if !slices.EqualFunc(got, texts, bytes.Equal) || e != api.OK || r.End() != api.OK {
		t.Errorf("texts are read as %q, %v", got, e)
	}
}

func TestJoinedIsRead(t *testing.T) {
	r := wire.Open(wire.Join(wire.Number(300), wire.Signed(-300), wire.Flag(true), wire.Bytes([]byte("ab"))))
	n, e1 := r.Number()
	s, e2 := r.Signed()
	is, e3 := r.Flag()
	b, e4 := r.Bytes(2)
	if n != 300 || s != -300 || !is || string(b) != "ab" || e1 != api.OK || e2 != api.OK || e3 != api.OK || e4 != api.OK || r.End() != api.OK {
		t.Errorf("%d %d %v %q; %v %v %v %v", n, s, is, b, e1, e2, e3, e4)
	}
}

// wantSame: if the bytes begin with a form, it is the one that is written of what was read; else the reader stays.
func wantSame[T any](t *testing.T, b []byte, one func(*wire.Reader) (T, api.Errno), form func(T) []byte) {
	t.Helper()
	got, e, went := read(string(b), one)
	if e == api.OK && !bytes.Equal(form(got), b[:went]) || e != api.OK && went != 0 {
		t.Fatalf("% x is read as %#v, %v, behind %d bytes", b, got, e, went)
	}
}

func wantAllSame(t *testing.T, b []byte) {
	t.Helper()
	wantSame(t, b, (*wire.Reader).Number, wire.Number)
	wantSame(t, b, (*wire.Reader).Signed, wire.Signed)
	wantSame(t, b, (*wire.Reader).Flag, wire.Flag)
	wantSame(t, b, func(r *wire.Reader) ([]byte, api.Errno) { return r.Bytes(1000) }, wire.Bytes)
	wantSame(t, b, func(r *wire.Reader) ([]int64, api.Errno) { return wire.Take(r, 1000, (*wire.Reader).Signed) }, func(l []int64) []byte {
		form, _ := wire.Put(l, wire.Signed)
		return form
	})
}

// P1.5: bytes that are read are those that are written of what was read.
func TestReadIsWritten(t *testing.T) {
	for a := range 256 {
		wantAllSame(t, []byte{byte(a)})
		for b := range 256 {
			wantAllSame(t, []byte{byte(a), byte(b)})
			for _, c := range []byte{0, 1, 2, 0x7f, 0x80, 0x81, 0xff} {
				wantAllSame(t, []byte{byte(a), byte(b), c})
			}
		}
	}
	for last := range 256 {
		for _, digit := range []byte{0x80, 0x81, 0xff} {
			for many := range 12 {
				wantAllSame(t, append(bytes.Repeat([]byte{digit}, many), byte(last), 1))
			}
		}
	}
}

func FuzzReadIsWritten(f *testing.F) {
	f.Add([]byte("\x02\x05\x80\x01"))
	f.Add([]byte("\xff\xff\xff\xff\xff\xff\xff\xff\xff\x01"))
	for _, b := range wrongNumbers {
		f.Add([]byte(b))
	}
	f.Fuzz(func(t *testing.T, b []byte) { wantAllSame(t, b) })
}

// wantNoBeginnings: sorted, a form that begins another one would stand right ahead of such a one.
func wantNoBeginnings(t *testing.T, kind string, forms []string) {
	t.Helper()
	slices.Sort(forms)
	forms = slices.Compact(forms)
	for i := 1; i < len(forms); i++ {
		if strings.HasPrefix(forms[i], forms[i-1]) {
			t.Errorf("%s: % x is the beginning of % x", kind, forms[i-1], forms[i])
		}
	}
}

// P1.5: no form is the beginning of another one of its kind.
func TestNoFormBeginsAnother(t *testing.T) {
	var numbers, signed, texts, lists []string
	for _, n := range edges() {
		numbers = append(numbers, string(wire.Number(n)))
		signed = append(signed, string(wire.Signed(int64(n))), string(wire.Signed(-int64(n))))
	}
	for n := range uint64(1 << 15) {
		numbers = append(numbers, string(wire.Number(n)))
		signed = append(signed, string(wire.Signed(int64(n))), string(wire.Signed(-int64(n))))
	}
	for n := range 300 {
		texts = append(texts, string(wire.Bytes(make([]byte, n))), string(wire.Bytes(bytes.Repeat([]byte{1}, n))))
		list, _ := wire.Put(edges()[:n%100], wire.Number)
		lists = append(lists, string(list))
		list, _ = wire.Put(make([]uint64, n), wire.Number)
		lists = append(lists, string(list))
	}
	wantNoBeginnings(t, "Number", numbers)
	wantNoBeginnings(t, "Signed", signed)
	wantNoBeginnings(t, "Flag", []string{string(wire.Flag(false)), string(wire.Flag(true))})
	wantNoBeginnings(t, "Bytes", texts)
	wantNoBeginnings(t, "Put", lists)
}
