package command_test

import (
	"encoding/binary"
	"math"
	"testing"

	"wicket/api"
	"wicket/calls"
	"wicket/command"
)

// wantNoForm: the bytes are no command's form, say this package and the words.
func wantNoForm(t *testing.T, b string) {
	t.Helper()
	if c, e := command.Read([]byte(b)); e != api.ErrBytes || !same(c, api.Command{}) || c.Call.Ops != nil {
		t.Errorf("Read(% .60x): %v, %v", b, c, e)
	}
	wantRead(t, b)
}

// longer is the form of a small number with digits 0 behind it that need not be.
func longer(b byte, noughts int) string {
	s := string([]byte{b | 0x80})
	for range noughts - 1 {
		s += "\x80"
	}
	return s + "\x00"
}

// behind is a Call's form with these bytes as its call's form.
func behind(call string) string {
	return "\x02\x02\x04\x00" + string(binary.AppendUvarint(nil, uint64(len(call)))) + call
}

func signed(n int64) string {
	return string(binary.AppendVarint(nil, n))
}

const get = "\x01\x01\x01t\x01k" // the form of get t k

// P9.1: no bytes, bytes less, bytes more.
func TestBytesLessAndMore(t *testing.T) {
	if _, e := command.Read(nil); e != api.ErrBytes {
		t.Errorf("Read of nil: %v", e)
	}
	wantNoForm(t, "")
	for _, c := range append(eachKind(), calling(1<<40, 1<<41, 300, sized(4096)), open(math.MaxInt64)) {
		form := plainForm(c)
		for at := 0; at < len(form); at += 1 + len(form)/500 {
			wantNoForm(t, form[:at])
		}
		wantNoForm(t, form[:len(form)-1])
		wantNoForm(t, form[1:])
		for b := range 256 {
			wantNoForm(t, form+string([]byte{byte(b)}))
		}
		wantNoForm(t, form+form)
		wantNoForm(t, "\x00"+form)
	}
	wantNoForm(t, string(make([]byte, 1<<20)))
}

// P9.1: kinds that are none.
func TestKindsInBytes(t *testing.T) {
	for _, kind := range []uint64{0, 5, 6, 127, 128, 129, 256 + 1, 1<<32 + 1, 1<<32 + 2, 1<<63 + 1, 1 << 63, math.MaxUint64, math.MaxUint64 - 1} {
		form := string(binary.AppendUvarint(nil, kind))
		for _, rest := range []string{"", "\x02", "\x06", "\x02\x04\x00\x06" + get} {
			wantNoForm(t, form+rest)
		}
	}
}

// P9.1: numbers have one form, kinds and counts too, and are from their least on.
func TestNumbersInBytes(t *testing.T) {
	for _, kind := range []byte{1, 3, 4} {
		one := string([]byte{kind})
		if !wantRead(t, one+"\x02") || !wantRead(t, one+signed(math.MaxInt64)) {
			t.Errorf("the kind %d is not read", kind)
		}
		for _, wrong := range []string{
			one + longer(2, 1), one + longer(2, 2), one + longer(2, 8), one + longer(2, 9), longer(kind, 1) + "\x02", longer(kind, 9) + "\x02",
			one + signed(0), one + signed(-1), one + signed(-2), one + signed(math.MinInt64),
			one + "\xfe\xff\xff\xff\xff\xff\xff\xff\xff\x02", one + "\xfe\xff\xff\xff\xff\xff\xff\xff\xff\x81\x00", one + "\x82", one + "\x02\x02", one + "\x02\x00",
		} {
			wantNoForm(t, wrong)
		}
	}
	fields := []string{"\x02", "\x02", "\x04", "\x00", "\x06"}
	for i := range fields {
		for noughts := 1; noughts <= 9; noughts++ {
			s := ""
			for j, f := range fields {
				if i == j {
					f = longer(f[0], noughts)
				}
				s += f
			}
			wantNoForm(t, s+get)
		}
	}
}

// P9.1: a Call's numbers are as they may be.
func TestNumbersOfACallInBytes(t *testing.T) {
	some := []int64{math.MinInt64, -2, -1, 0, 1, 2, 3, 4, math.MaxInt64 - 1, math.MaxInt64}
	read := 0
	for _, session := range some {
		for _, number := range some {
			for _, mark := range some {
				form := "\x02" + signed(session) + signed(number) + signed(mark) + "\x06" + get
				if wantRead(t, form) {
					read++
				} else {
					wantNoForm(t, form)
				}
			}
		}
	}
	// Six sessions, with 1 a mark 0, with 2 0 or 1, .., with the last two 0 to 4, and one more of the greatest.
	if want := 6 * (1 + 2 + 3 + 4 + 5 + 6); read != want {
		t.Errorf("%d are read, want %d", read, want)
	}
}

// P9.1: what stands within a Call is a call's form, whole, and no more.
func TestInnerForms(t *testing.T) {
	if !wantRead(t, behind(get)) {
		t.Error("a call's form is not read")
	}
	for _, inner := range []string{
		"", "\x00", "\x01", get[:len(get)-1], get + "\x00", get + get, "\x02" + get[1:], "\x81\x00" + get[1:], "\x01\x01\x01t\x00", "\x01\x01\x00\x01k", "\x01\x01\x01T\x01k",
		"\x01\x06\x01t\x01k", "\x01\x00\x01t\x01k", "\x01\x05\x01t\x00\x00\x00", "\x01\x05\x01t\x00\x00\x41", "\x01\x04\x01t\x01k\x00\x01o\x01v", "\x01\x04\x01t\x01k\x02\x00\x00",
	} {
		wantNoForm(t, behind(inner))
	}
	for many := range 12 {
		form := "\x02\x02\x04\x00" + string([]byte{byte(many)}) + get
		if wantRead(t, form) != (many == len(get)) {
			t.Errorf("%d bytes said: % x", many, form)
		}
	}
	// A call itself, not as bytes.
	wantNoForm(t, "\x02\x02\x04\x00"+get)
}

// P9.1: a call's form is as long as may be, and no longer.
func TestLongInnerForms(t *testing.T) {
	most, _ := calls.Bytes(sized(4096))
	if !wantRead(t, behind(string(most))) {
		t.Error("4096 bytes are not read")
	}
	long := []byte("\x10")
	for _, op := range sized(4097).Ops {
		value := binary.AppendUvarint(nil, uint64(len(op.Value)))
		long = append(append(append(long, "\x02\x01t\x01k"...), value...), op.Value...)
	}
	if len(long) != 4097 || string(long[:3900]) != string(most[:3900]) {
		t.Fatalf("%d bytes", len(long))
	}
	wantNoForm(t, behind(string(long)))
	for _, many := range []uint64{4097, 1 << 20, 1 << 31, 1 << 32, 1 << 63, math.MaxUint64} {
		wantNoForm(t, "\x02\x02\x04\x00"+string(binary.AppendUvarint(nil, many)))
		wantNoForm(t, "\x02\x02\x04\x00"+string(binary.AppendUvarint(nil, many))+string(most))
	}
}
