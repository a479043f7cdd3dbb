package wire_test

import (
	"fmt"
	"math"
	"slices"
	"testing"

	"wicket/api"
	"wicket/wire"
)

const behind = "\x05z"

// read opens bytes and reads; it tells what was read, the error, and how many bytes the reader went on.
func read[T any](b string, one func(*wire.Reader) (T, api.Errno)) (T, api.Errno, int) {
	r := wire.Open([]byte(b))
	got, e := one(r)
	return got, e, len(b) - r.Left()
}

// wantRead: the form is read as want, whatever stands behind it, and the reader goes just behind it.
func wantRead[T comparable](t *testing.T, form string, one func(*wire.Reader) (T, api.Errno), want T) {
	t.Helper()
	for _, more := range []string{"", "\x00", "\xff", behind} {
		if got, e, went := read(form+more, one); got != want || e != api.OK || went != len(form) {
			t.Errorf("% x: %#v, %v, went on %d; want %#v behind %d", form+more, got, e, went, want, len(form))
		}
	}
}

// wantRefused: an error, a zero answer, and a reader that stays where it was.
func wantRefused[T comparable](t *testing.T, b string, one func(*wire.Reader) (T, api.Errno), want api.Errno) {
	t.Helper()
	var zero T
	if got, e, went := read(b, one); got != zero || e != want || went != 0 {
		t.Errorf("% x: %#v, %v, went on %d; want %v", b, got, e, went, want)
	}
}

func bytesUpTo(most int) func(*wire.Reader) (string, api.Errno) {
	return func(r *wire.Reader) (string, api.Errno) {
		b, e := r.Bytes(most)
		return string(b), e
	}
}

// numbersUpTo tells a list as a text, so that it can be held against another one.
func numbersUpTo(most int) func(*wire.Reader) (string, api.Errno) {
	return func(r *wire.Reader) (string, api.Errno) {
		l, e := wire.Take(r, most, (*wire.Reader).Number)
		if len(l) == 0 {
			return "", e
		}
		return fmt.Sprint(l), e
	}
}

// P1.2
func TestOpenLeftEnd(t *testing.T) {
	for _, b := range [][]byte{nil, {}} {
		r := wire.Open(b)
		if r == nil || r.Left() != 0 || r.End() != api.OK {
			t.Errorf("Open of none: %v", r)
		}
	}
	r := wire.Open([]byte{5, 6, 7})
	for left := 3; left > 0; left-- {
		if r.Left() != left || r.End() != api.ErrBytes || r.Left() != left {
			t.Errorf("Left is %d, End %v; want %d", r.Left(), r.End(), left)
		}
		r.Number()
	}
	if r.Left() != 0 || r.End() != api.OK {
		t.Errorf("at the end Left is %d, End %v", r.Left(), r.End())
	}
}

func TestOpenTakesBytesAsTheyAreThen(t *testing.T) {
	b := []byte("\x02ab\x07\x01")
	r := wire.Open(b)
	fill(b)
	if got, e := r.Bytes(2); string(got) != "ab" || e != api.OK {
		t.Errorf("Bytes is %q, %v", got, e)
	}
	fill(b)
	if n, e := r.Number(); n != 7 || e != api.OK {
		t.Errorf("Number is %d, %v", n, e)
	}
	if is, e := r.Flag(); !is || e != api.OK || r.End() != api.OK {
		t.Errorf("Flag is %v, %v", is, e)
	}
}

func TestReadersGoAlone(t *testing.T) {
	b := []byte{1, 2}
	first, second := wire.Open(b), wire.Open(b)
	first.Number()
	if first.Left() != 1 || second.Left() != 2 {
		t.Errorf("Left is %d and %d", first.Left(), second.Left())
	}
}

// P1.3
func TestReadNumber(t *testing.T) {
	for form, want := range map[string]uint64{
		"\x00": 0, "\x01": 1, "\x7f": 127, "\x80\x01": 128, "\xac\x02": 300, "\xff\x7f": 1<<14 - 1, "\x80\x80\x01": 1 << 14,
		"\xff\xff\xff\xff\xff\xff\xff\xff\x7f":     1<<63 - 1,
		"\x80\x80\x80\x80\x80\x80\x80\x80\x80\x01": 1 << 63,
		"\xff\xff\xff\xff\xff\xff\xff\xff\xff\x01": math.MaxUint64,
	} {
		wantRead(t, form, (*wire.Reader).Number, want)
	}
}

// wrongNumbers end within, have a nought at their end, or are above 2^64 - 1.
var wrongNumbers = []string{
	"", "\x80", "\xff", "\x80\x80", "\xff\xff\xff\xff\xff\xff\xff\xff\xff",
	"\x80\x00", "\x81\x00", "\x80\x80\x00", "\x80\x00\x01", "\xff\xff\xff\xff\xff\xff\xff\xff\xff\x00",
	"\xff\xff\xff\xff\xff\xff\xff\xff\xff\x02", "\x80\x80\x80\x80\x80\x80\x80\x80\x80\x02", "\x80\x80\x80\x80\x80\x80\x80\x80\x80\x7f",
	"\x80\x80\x80\x80\x80\x80\x80\x80\x80\x80\x01", "\x80\x80\x80\x80\x80\x80\x80\x80\x80\x81\x00", "\xff\xff\xff\xff\xff\xff\xff\xff\xff\xff\x01",
}

func TestReadWrongNumbers(t *testing.T) {
	for _, b := range wrongNumbers {
		wantRefused(t, b, (*wire.Reader).Number, api.ErrBytes)
		wantRefused(t, b, (*wire.Reader).Signed, api.ErrBytes)
		wantRefused(t, b, bytesUpTo(math.MaxInt), api.ErrBytes)
		wantRefused(t, b, bytesUpTo(0), api.ErrBytes)
		wantRefused(t, b, numbersUpTo(math.MaxInt), api.ErrBytes)
		wantRefused(t, b, numbersUpTo(0), api.ErrBytes)
	}
}

func TestReadSigned(t *testing.T) {
	for form, want := range map[string]int64{
		"\x00": 0, "\x01": -1, "\x02": 1, "\x03": -2, "\x7e": 63, "\x7f": -64, "\x80\x01": 64, "\x81\x01": -65,
		"\xfe\xff\xff\xff\xff\xff\xff\xff\xff\x01": math.MaxInt64,
		"\xff\xff\xff\xff\xff\xff\xff\xff\xff\x01": math.MinInt64,
	} {
		wantRead(t, form, (*wire.Reader).Signed, want)
	}
}

func TestReadFlag(t *testing.T) {
	wantRead(t, "\x00", (*wire.Reader).Flag, false)
	wantRead(t, "\x01", (*wire.Reader).Flag, true)
	wantRefused(t, "", (*wire.Reader).Flag, api.ErrBytes)
	for b := 2; b < 256; b++ {
		wantRefused(t, string([]byte{byte(b), 0}), (*wire.Reader).Flag, api.ErrBytes)
	}
}

func TestReadBytes(t *testing.T) {
	wantRead(t, "\x00", bytesUpTo(0), "")
	wantRead(t, "\x00", bytesUpTo(math.MaxInt), "")
	for _, most := range []int{2, 3, math.MaxInt} {
		wantRead(t, "\x02ab", bytesUpTo(most), "ab")
	}
	long := string(make([]byte, 300))
	wantRead(t, "\xac\x02"+long, bytesUpTo(300), long)
}

func TestReadWrongBytes(t *testing.T) {
	for _, x := range []struct {
		b    string
		most int
		want api.Errno
	}{
		{"\x02ab", 1, api.ErrLong}, {"\x02ab", 0, api.ErrLong}, {"\x01a", 0, api.ErrLong}, {"\xac\x02", 299, api.ErrLong},
		{"\x02a", 1, api.ErrLong}, // ahead of the bytes that lack
		{"\x02a", 2, api.ErrBytes}, {"\x02", 2, api.ErrBytes}, {"\x02a", math.MaxInt, api.ErrBytes},
		{"\xff\xff\xff\xff\xff\xff\xff\xff\x7fa", math.MaxInt, api.ErrBytes},
		{"\x80\x80\x80\x80\x80\x80\x80\x80\x80\x01a", math.MaxInt, api.ErrLong},
		{"\xff\xff\xff\xff\xff\xff\xff\xff\xff\x01a", math.MaxInt, api.ErrLong},
		{"\x02ab", -1, api.ErrArg}, {"\x00", -1, api.ErrArg}, {"\x02ab", math.MinInt, api.ErrArg},
		{"", -1, api.ErrArg}, {"\x80\x00", -1, api.ErrArg}, // ahead of the number's error
	} {
		wantRefused(t, x.b, bytesUpTo(x.most), x.want)
	}
}

func TestReadBytesIsNewMemory(t *testing.T) {
	r := wire.Open([]byte("\x02ab\x02cd\x07"))
	first, _ := r.Bytes(2)
	fill(first)
	second, e := r.Bytes(2)
	if string(second) != "cd" || e != api.OK {
		t.Errorf("Bytes is %q, %v", second, e)
	}
	fill(second)
	if n, e := r.Number(); n != 7 || e != api.OK {
		t.Errorf("Number is %d, %v", n, e)
	}
}

// A reader that was refused goes on from where it was, by whatever call.
func TestReaderGoesOnBehindAnError(t *testing.T) {
	r := wire.Open([]byte("\x07\x02ab"))
	if n, e := r.Number(); n != 7 || e != api.OK {
		t.Errorf("Number is %d, %v", n, e)
	}
	for range 2 {
		if _, e := r.Flag(); e != api.ErrBytes || r.Left() != 3 {
			t.Errorf("Flag: %v, %d left", e, r.Left())
		}
		if _, e := r.Bytes(1); e != api.ErrLong || r.Left() != 3 {
			t.Errorf("Bytes(1): %v, %d left", e, r.Left())
		}
		if _, e := wire.Take(r, 2, (*wire.Reader).Flag); e != api.ErrBytes || r.Left() != 3 {
			t.Errorf("Take: %v, %d left", e, r.Left())
		}
	}
	if b, e := r.Bytes(2); string(b) != "ab" || e != api.OK || r.End() != api.OK {
		t.Errorf("Bytes(2) is %q, %v", b, e)
	}
}

// P1.2 to P1.4: readers that are not there, and their error ahead of all others.
func TestNilAndZeroReaders(t *testing.T) {
	for name, r := range map[string]*wire.Reader{"nil": nil, "zero": {}} {
		if n, e := r.Number(); n != 0 || e != api.ErrNil {
			t.Errorf("%s: Number is %d, %v", name, n, e)
		}
		if n, e := r.Signed(); n != 0 || e != api.ErrNil {
			t.Errorf("%s: Signed is %d, %v", name, n, e)
		}
		if is, e := r.Flag(); is || e != api.ErrNil {
			t.Errorf("%s: Flag is %v, %v", name, is, e)
		}
		for _, most := range []int{-1, 0, 1} {
			if b, e := r.Bytes(most); b != nil || e != api.ErrNil {
				t.Errorf("%s: Bytes(%d) is % x, %v", name, most, b, e)
			}
			l, e := wire.Take(r, most, func(*wire.Reader) (int, api.Errno) {
				t.Errorf("%s: Take called its function", name)
				return 0, api.OK
			})
			if l != nil || e != api.ErrNil {
				t.Errorf("%s: Take(%d) is %v, %v", name, most, l, e)
			}
		}
		if r.Left() != 0 || r.End() != api.ErrNil {
			t.Errorf("%s: Left is %d, End %v", name, r.Left(), r.End())
		}
	}
}

// P1.4
func TestTake(t *testing.T) {
	wantRead(t, "\x00", numbersUpTo(0), "")
	wantRead(t, "\x00", numbersUpTo(math.MaxInt), "")
	for _, most := range []int{2, 9, math.MaxInt} {
		wantRead(t, "\x02\x05\x80\x01", numbersUpTo(most), "[5 128]")
	}
	r := wire.Open([]byte("\x03\x02\x01\x04" + behind))
	l, e := wire.Take(r, 3, (*wire.Reader).Signed)
	if !slices.Equal(l, []int64{1, -1, 2}) || e != api.OK || r.Left() != len(behind) {
		t.Errorf("Take is %v, %v, %d left", l, e, r.Left())
	}
}

func TestTakeCallsItsFunctionWithThisReader(t *testing.T) {
	r := wire.Open([]byte("\x82\x01"))
	called := 0
	l, e := wire.Take(r, 130, func(got *wire.Reader) (int, api.Errno) {
		called++
		if got != r || got.End() != api.OK {
			t.Errorf("called with another reader, or at another place")
		}
		return called, api.OK
	})
	if called != 130 || len(l) != 130 || l[0] != 1 || l[129] != 130 || e != api.OK {
		t.Errorf("called %d times; Take is %v, %v", called, l, e)
	}
}

func TestTakeOfLists(t *testing.T) {
	pair := func(r *wire.Reader) ([]byte, api.Errno) { return wire.Take(r, 2, octet) }
	r := wire.Open([]byte("\x03\x02ab\x00\x01c"))
	l, e := wire.Take(r, 3, pair)
	if e != api.OK || len(l) != 3 || string(l[0]) != "ab" || len(l[1]) != 0 || string(l[2]) != "c" || r.End() != api.OK {
		t.Errorf("Take is %q, %v", l, e)
	}
	r = wire.Open([]byte("\x02\x02ab\x03cde"))
	if l, e := wire.Take(r, 3, pair); l != nil || e != api.ErrLong || r.Left() != 8 {
		t.Errorf("Take is %q, %v, %d left", l, e, r.Left())
	}
}

// octet reads a number as one byte.
func octet(r *wire.Reader) (byte, api.Errno) {
	n, e := r.Number()
	return byte(n), e
}

func TestTakeRefused(t *testing.T) {
	for _, x := range []struct {
		b    string
		most int
		want api.Errno
	}{
		{"\x02\x05\x06", 1, api.ErrLong}, {"\x01\x05", 0, api.ErrLong}, {"\x02", 1, api.ErrLong},
		{"\x02\x05", 2, api.ErrBytes}, {"\x02", 2, api.ErrBytes}, {"\x02\x05\x80\x00", 9, api.ErrBytes}, {"\x03\x05\x80", 9, api.ErrBytes},
		{"\xff\xff\xff\xff\xff\xff\xff\xff\x7f\x05", math.MaxInt, api.ErrBytes},
		{"\xff\xff\xff\xff\xff\xff\xff\xff\xff\x01\x05", math.MaxInt, api.ErrLong},
		{"\x00", -1, api.ErrArg}, {"\x01\x05", math.MinInt, api.ErrArg}, {"", -1, api.ErrArg}, {"\x80\x00", -1, api.ErrArg},
	} {
		wantRefused(t, x.b, numbersUpTo(x.most), x.want)
	}
}

func TestTakeRefusedAheadOfItsFunction(t *testing.T) {
	for _, x := range []struct {
		b    string
		most int
	}{{"\x02\x05\x06", 1}, {"\x80\x00", 9}, {"", 9}, {"\x01\x05", -1}} {
		wire.Take(wire.Open([]byte(x.b)), x.most, func(*wire.Reader) (int, api.Errno) {
			t.Errorf("% x, %d: the function was called", x.b, x.most)
			return 0, api.OK
		})
	}
}

// The function's first error, whichever it is, ends it, is answered, and puts the reader back however far it went.
func TestTakeEndsAtTheFirstError(t *testing.T) {
	for _, why := range []api.Errno{api.ErrNone, api.ErrFull, -1, 999} {
		r := wire.Open([]byte("\x07\x04\x05\x06\x07\x08"))
		r.Number()
		called := 0
		l, e := wire.Take(r, 4, func(r *wire.Reader) (uint64, api.Errno) {
			called++
			n, _ := r.Number()
			if n >= 6 {
				r.Number()
				return n, why
			}
			return n, api.OK
		})
		if l != nil || e != why || called != 2 || r.Left() != 5 {
			t.Errorf("Take is %v, %v, called %d times, %d left", l, e, called, r.Left())
		}
		if n, e := r.Number(); n != 4 || e != api.OK {
			t.Errorf("behind the error Number is %d, %v", n, e)
		}
	}
}

func TestTakeWithoutFunction(t *testing.T) {
	for _, most := range []int{-1, 0, 9} {
		for _, b := range []string{"\x02\x05\x06", "\x00", "", "\x80\x00"} {
			r := wire.Open([]byte(b))
			if l, e := wire.Take[int](r, most, nil); l != nil || e != api.ErrNil || r.Left() != len(b) {
				t.Errorf("% x, %d: Take is %v, %v, %d left", b, most, l, e, r.Left())
			}
			if l, e := wire.Take[int](nil, most, nil); l != nil || e != api.ErrNil {
				t.Errorf("of nil: Take is %v, %v", l, e)
			}
		}
	}
}

func TestTakeIsNewMemory(t *testing.T) {
	b := []byte("\x02\x05\x06\x02\x07\x08")
	r := wire.Open(b)
	first, _ := wire.Take(r, 2, octet)
	fill(first)
	second, e := wire.Take(r, 2, octet)
	if string(second) != "\x07\x08" || e != api.OK || string(b) != "\x02\x05\x06\x02\x07\x08" {
		t.Errorf("Take is % x, %v", second, e)
	}
}
