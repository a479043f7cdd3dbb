package message_test

import (
	"encoding/binary"
	"math"
	"testing"

	"wicket/api"
	"wicket/calls"
	"wicket/message"
)

// wantNoMessage: the bytes are no message's, say this package and the words.
func wantNoMessage(t *testing.T, b string) {
	t.Helper()
	if m, e := message.Read([]byte(b)); e != api.ErrBytes || !zero(m) {
		t.Errorf("Read(% .60x): %s, %v", b, shortly(m), e)
	}
	wantRead(t, b)
}

// P15.2: the bytes of each kind, written out.
func TestBytesOfEachKind(t *testing.T) {
	for want, m := range map[string]api.Message{
		"\x01\x00\x01\x05":                                            asks(0, opening(5)),
		"\x01\x07\x01\xac\x02":                                        asks(7, opening(300)),
		"\x01\x01\x02\x03\x04\x02" + get:                              asks(1, calling(3, 4, 2, parsed("get t k"))),
		"\x01\x01\x02\x80\x01\xff\x01\x00" + get:                      asks(1, calling(128, 255, 0, parsed("get t k"))),
		"\x01\x00\x02\x01\x01\x00\x01\x04\x03000\x01\x00\x00\x00\x00": asks(0, calling(1, 1, 0, parsed("swap 000 %00 - %"))),
		"\x01\x02\x03\x03":                                            asks(2, closing(3)),
		"\x02\x03\x01\x05\x06":                                        tells(3, opened(5, 6)),
		"\x02\x04\x02\x05":                                            tells(4, full(5)),
		"\x02\x05\x03\x03\x04" + other:                                tells(5, answered(3, 4, []byte(other))),
		"\x02\x05\x03\x80\x01\x04\x00\x01\x00\x00" + "\x00":           tells(5, answered(128, 4, []byte("\x00\x01\x00\x00\x00"))),
		"\x02\x06\x04\x03\x04":                                        tells(6, gone(3, 4)),
		"\x02\x06\x04\x03\x00":                                        tells(6, gone(3, 0)),
		"\x02\x00\x05\x03\x04":                                        tells(0, stale(3, 4)),
		"\x02\x01\x06\x03\x04":                                        tells(1, ahead(3, 4)),
		"\x02\x02\x07\x03":                                            tells(2, closed(3)),
		"\x02\x02\x07\xff\xff\xff\xff\xff\xff\xff\xff\x7f":            tells(2, closed(math.MaxInt64)),
	} {
		if b, e := message.Bytes(m); string(b) != want || e != api.OK {
			t.Errorf("Bytes(%v): % x, %v; want % x", m, b, e, want)
		}
		if got, e := message.Read([]byte(want)); !same(got, m) || e != api.OK {
			t.Errorf("Read(% x): %v, %v; want %v", want, got, e, m)
		}
		wantTaken(t, m)
	}
}

// P15.2, P15.4: no bytes, bytes less, bytes more.
func TestBytesLessAndMore(t *testing.T) {
	wantNoMessage(t, "")
	great := []api.Message{
		asks(7, calling(1<<40, 1<<41, 300, sized(4096))), asks(7, opening(math.MaxInt64)), tells(7, opened(math.MaxInt64, math.MaxInt64)), tells(7, answered(1<<40, 1<<41, greatest())),
	}
	for _, m := range append(eachKind(), great...) {
		form := plainForm(m)
		for at := 0; at < len(form); at += 1 + len(form)/500 {
			wantNoMessage(t, form[:at])
		}
		wantNoMessage(t, form[:len(form)-1])
		wantRead(t, form[1:]) // a kind's byte and what follows may happen to be another message
		for b := 0; b < 256; b += 1 + len(form)/10000 {
			wantNoMessage(t, form+string([]byte{byte(b)}))
		}
		wantNoMessage(t, form+form)
		wantNoMessage(t, "\x00"+form)
	}
	wantNoMessage(t, string(make([]byte, 1<<20)))
}

// P15.2: the three bytes in front, each of them whatever it may be.
func TestHeads(t *testing.T) {
	rests := []string{"", "\x03", "\x03\x04", "\x03\x00", "\x03\x04" + other, "\x03\x04\x02" + get}
	taken := 0
	for kind := range 256 {
		for client := range 256 {
			for says := range 256 {
				// Those that are far off go with few others.
				if kind > 3 && client > 0 || client > 9 && says > 3 || says > 9 && kind != 1 && kind != 2 {
					continue
				}
				for _, rest := range rests {
					if wantRead(t, string([]byte{byte(kind), byte(client), byte(says)})+rest) {
						taken++
					}
				}
			}
		}
	}
	// Of each of 8 clients: Open, Call, Close; Opened, Full, Answered, two Gones, Stale, Ahead, Closed.
	if taken != 8*11 {
		t.Errorf("%d are read", taken)
	}
}

// longer is the form of a small number with digits 0 behind it that need not be.
func longer(b byte, noughts int) string {
	s := string([]byte{b | 0x80})
	for range noughts - 1 {
		s += "\x80"
	}
	return s + "\x00"
}

// shapes are, of each kind, what stands in front, its numbers, what stands behind them.
func shapes() []shape {
	return []shape{
		{"\x01\x01\x01", "\x05", ""}, {"\x01\x01\x02", "\x03\x04\x02", get}, {"\x01\x01\x03", "\x03", ""}, {"\x02\x01\x01", "\x05\x06", ""}, {"\x02\x01\x02", "\x05", ""},
		{"\x02\x01\x03", "\x03\x04", other}, {"\x02\x01\x04", "\x03\x04", ""}, {"\x02\x01\x05", "\x03\x04", ""}, {"\x02\x01\x06", "\x03\x04", ""}, {"\x02\x01\x07", "\x03", ""},
	}
}

type shape struct {
	front, numbers, behind string
}

// with is the shape's bytes with another number at that place.
func (s shape) with(place int, number string) string {
	return s.front + s.numbers[:place] + number + s.numbers[place+1:] + s.behind
}

// P15.2: numbers have one form, are from their least on, and go up to 2 to the power 63, less 1.
func TestNumbersInBytes(t *testing.T) {
	for _, s := range shapes() {
		if !wantRead(t, s.front+s.numbers+s.behind) {
			t.Fatalf("% x is not read", s)
		}
		for place := range s.numbers {
			for noughts := 1; noughts <= 10; noughts++ {
				wantNoMessage(t, s.with(place, longer(s.numbers[place], noughts)))
			}
			for _, n := range []uint64{1 << 63, 1<<63 + 1, 1<<63 + 3, 1<<63 + 1<<32, math.MaxUint64 - 1, math.MaxUint64} {
				wantNoMessage(t, s.with(place, string(binary.AppendUvarint(nil, n))))
			}
			for _, number := range []string{"", "\x80", "\xff", "\xff\xff\xff\xff\xff\xff\xff\xff\xff\x02", "\x80\x80\x80\x80\x80\x80\x80\x80\x80\x80\x01"} {
				wantNoMessage(t, s.with(place, number))
			}
			isMark, isGone := s.front == "\x01\x01\x02" && place == 2, s.front == "\x02\x01\x04" && place == 1
			if wantRead(t, s.with(place, "\x00")) != (isMark || isGone) {
				t.Errorf("% x with 0 at %d", s, place)
			}
			if wantRead(t, s.with(place, digits(math.MaxInt64))) == isMark {
				t.Errorf("% x with the greatest number at %d", s, place)
			}
		}
	}
}

// P15.2: a Call's numbers are as they may be.
func TestNumbersOfACallInBytes(t *testing.T) {
	some := []int64{0, 1, 2, 3, 4, math.MaxInt64 - 1, math.MaxInt64, math.MinInt64, -1}
	taken := 0
	for _, session := range some {
		for _, number := range some {
			for _, mark := range some {
				if wantRead(t, "\x01\x00\x02"+digits(session, number, mark)+get) {
					taken++
				}
			}
		}
	}
	// Six sessions, with 1 a mark 0, with 2 0 or 1, and so on.
	if want := 6 * (1 + 2 + 3 + 4 + 5 + 6); taken != want {
		t.Errorf("%d are read, want %d", taken, want)
	}
}

// P15.2: what stands behind a Call's numbers is a call's form, whole, and no more.
func TestCallsInBytes(t *testing.T) {
	front := "\x01\x00\x02\x01\x01\x00"
	if !wantRead(t, front+get) {
		t.Error("a call's form is not read")
	}
	for _, inner := range []string{
		"", "\x00", "\x01", get[:len(get)-1], get + "\x00", get + get, "\x02" + get[1:], "\x81\x00" + get[1:], "\x01\x01\x01t\x00", "\x01\x01\x00\x01k", "\x01\x01\x01T\x01k",
		"\x01\x06\x01t\x01k", "\x01\x00\x01t\x01k", "\x01\x05\x01t\x00\x00\x00", "\x01\x05\x01t\x00\x00\x41", "\x01\x04\x01t\x01k\x00\x01o\x01v", "\x01\x04\x01t\x01k\x02\x00\x00",
		// As a command has it, with its length ahead.
		"\x06" + get,
	} {
		wantNoMessage(t, front+inner)
	}
	most, _ := calls.Bytes(sized(4096))
	if !wantRead(t, front+string(most)) {
		t.Error("4096 bytes are not read")
	}
	long := []byte("\x10")
	for _, op := range sized(4097).Ops {
		value := binary.AppendUvarint(nil, uint64(len(op.Value)))
		long = append(append(append(long, "\x02\x01t\x01k"...), value...), op.Value...)
	}
	if len(long) != 4097 || string(long[:3900]) != string(most[:3900]) {
		t.Fatalf("%d bytes", len(long))
	}
	wantNoMessage(t, front+string(long))
}

// P15.2: what stands behind an Answered's numbers is a result's form, whole, and no more.
func TestAnswersInBytes(t *testing.T) {
	front := "\x02\x00\x03\x01\x01"
	for _, answer := range append(results(), string(greatest())) {
		if !wantRead(t, front+answer) {
			t.Errorf("% .60x is not read", answer)
		}
		if m, e := message.Read([]byte(front + answer)); e != api.OK || string(m.Tell.Answer) != answer {
			t.Errorf("% .60x is read as % .60x, %v", answer, m.Tell.Answer, e)
		}
		wantNoMessage(t, front+"\x05"+answer)
	}
	for _, answer := range append(wrongResults(), "") {
		wantNoMessage(t, front+answer)
	}
}
