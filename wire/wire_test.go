package wire_test

import (
	"bytes"
	"math"
	"testing"

	"wicket/api"
	"wicket/wire"
)

func wantBytes(t *testing.T, what string, got []byte, want string) {
	t.Helper()
	if string(got) != want {
		t.Errorf("%s is % x, want % x", what, got, want)
	}
}

// P1.1: the forms, at ordinary numbers and on both sides of each digit more.
func TestNumberForm(t *testing.T) {
	for _, x := range []struct {
		n    uint64
		want string
	}{
		{0, "\x00"}, {1, "\x01"}, {127, "\x7f"}, {128, "\x80\x01"}, {129, "\x81\x01"}, {255, "\xff\x01"}, {256, "\x80\x02"}, {300, "\xac\x02"},
		{1<<14 - 1, "\xff\x7f"}, {1 << 14, "\x80\x80\x01"},
		{1<<63 - 1, "\xff\xff\xff\xff\xff\xff\xff\xff\x7f"}, {1 << 63, "\x80\x80\x80\x80\x80\x80\x80\x80\x80\x01"},
		{math.MaxUint64, "\xff\xff\xff\xff\xff\xff\xff\xff\xff\x01"},
	} {
		wantBytes(t, "Number", wire.Number(x.n), x.want)
	}
}

func TestSignedForm(t *testing.T) {
	for _, x := range []struct {
		n    int64
		want string
	}{
		{0, "\x00"}, {-1, "\x01"}, {1, "\x02"}, {-2, "\x03"}, {63, "\x7e"}, {-64, "\x7f"}, {64, "\x80\x01"}, {-65, "\x81\x01"},
		{math.MaxInt64, "\xfe\xff\xff\xff\xff\xff\xff\xff\xff\x01"},
		{math.MinInt64, "\xff\xff\xff\xff\xff\xff\xff\xff\xff\x01"},
	} {
		wantBytes(t, "Signed", wire.Signed(x.n), x.want)
	}
}

func TestFlagAndBytesForms(t *testing.T) {
	wantBytes(t, "Flag(false)", wire.Flag(false), "\x00")
	wantBytes(t, "Flag(true)", wire.Flag(true), "\x01")
	wantBytes(t, "Bytes(nil)", wire.Bytes(nil), "\x00")
	wantBytes(t, "Bytes of none", wire.Bytes([]byte{}), "\x00")
	wantBytes(t, "Bytes(ab)", wire.Bytes([]byte("ab")), "\x02ab")
	long := bytes.Repeat([]byte{0xff}, 128)
	wantBytes(t, "Bytes of 128", wire.Bytes(long), "\x80\x01"+string(long))
}

func TestJoin(t *testing.T) {
	wantBytes(t, "Join of nothing", wire.Join(), "")
	wantBytes(t, "Join(nil, none)", wire.Join(nil, []byte{}), "")
	wantBytes(t, "Join of one", wire.Join([]byte("ab")), "ab")
	wantBytes(t, "Join of some", wire.Join([]byte("b"), nil, []byte("ca"), []byte{0}), "bca\x00")
}

func TestPut(t *testing.T) {
	for _, x := range []struct {
		l    []int64
		want string
	}{
		{nil, "\x00"}, {[]int64{}, "\x00"}, {[]int64{0}, "\x01\x00"}, {[]int64{1, -1, 64}, "\x03\x02\x01\x80\x01"}, {make([]int64, 128), "\x80\x01" + string(make([]byte, 128))},
	} {
		got, e := wire.Put(x.l, wire.Signed)
		wantBytes(t, "Put", got, x.want)
		if e != api.OK {
			t.Errorf("Put of %v: %v", x.l, e)
		}
	}
}

func TestPutTakesFormsAsTheyAre(t *testing.T) {
	got, e := wire.Put([]string{"b", "", "ac"}, func(s string) []byte { return []byte(s) })
	if string(got) != "\x03bac" || e != api.OK {
		t.Errorf("Put is % x, %v", got, e)
	}
	room := make([]byte, 1)
	got, e = wire.Put([]byte("xyz"), func(b byte) []byte {
		room[0] = b
		return room
	})
	if string(got) != "\x03xyz" || e != api.OK {
		t.Errorf("Put by a form with one room is % x, %v", got, e)
	}
}

func TestPutWithoutFunction(t *testing.T) {
	for _, l := range [][]int{nil, {}, {1, 2}} {
		if got, e := wire.Put(l, nil); got != nil || e != api.ErrNil {
			t.Errorf("Put of %v is % x, %v", l, got, e)
		}
	}
}

// What is handed in stays as it was, spare room behind it included.
func TestFormsLeaveArguments(t *testing.T) {
	const stay = "abcdefghijklmnop"
	b := []byte(stay)
	wire.Bytes(b[:2])
	wire.Join(b[:1], []byte("XYZ"))
	wire.Join(b[:0], []byte("XYZ"))
	wire.Put([]int{1, 2}, func(n int) []byte { return b[:n] })
	wire.Open(b[:3]).Bytes(9)
	wantBytes(t, "what was handed in", b, stay)
}

// fill writes over a list of bytes and the spare room behind it.
func fill(b []byte) {
	b = b[:cap(b)]
	for i := range b {
		b[i] = 0xee
	}
}

// Answers share no memory with what was handed in, or with each other.
func TestFormsAreNewMemory(t *testing.T) {
	b := []byte("abc")
	for name, form := range map[string]func() []byte{
		"Number":     func() []byte { return wire.Number(300) },
		"Signed":     func() []byte { return wire.Signed(-300) },
		"Flag false": func() []byte { return wire.Flag(false) },
		"Flag true":  func() []byte { return wire.Flag(true) },
		"Bytes":      func() []byte { return wire.Bytes(b) },
		"Join":       func() []byte { return wire.Join(b) },
		"Join more":  func() []byte { return wire.Join(nil, b, nil) },
		"Put": func() []byte {
			got, _ := wire.Put([][]byte{b}, func(b []byte) []byte { return b })
			return got
		},
	} {
		first, second := form(), form()
		want := string(second)
		fill(first)
		wantBytes(t, name+", a second answer,", second, want)
		wantBytes(t, name+", a third answer,", form(), want)
		wantBytes(t, name+", what was handed in,", b, "abc")
		fill(b)
		wantBytes(t, name+", an answer whose argument was changed,", second, want)
		copy(b, "abc")
	}
}
