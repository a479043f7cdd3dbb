package frame_test

import (
	"slices"
	"testing"

	"wicket/api"
	"wicket/frame"
)

// spoil writes over bytes, and over the spare room behind them.
func spoil(b []byte) {
	b = b[:cap(b)]
	for i := range b {
		b[i] = '!'
	}
}

// room is bytes with spare room behind them.
func room(text string) []byte {
	return []byte(text + "....")[:len(text)]
}

func wantRoom(t *testing.T, what string, b []byte, text string) {
	t.Helper()
	if got := string(b[:len(text)+4]); got != text+"...." || len(b) != len(text) {
		t.Errorf("%s: what was handed in is %q now", what, got)
	}
}

// What is handed in is not changed, spare room included, and answers that are spoilt have none of it.
func TestHandedInIsNotChanged(t *testing.T) {
	body, other := room("ab"), room("")
	l := append(make([]api.Frame, 0, 3), api.Frame{Kind: 1, Body: body}, api.Frame{Kind: 2, Body: other})
	for _, f := range l {
		b, _ := frame.Put(f.Kind, f.Body)
		spoil(b)
		frame.Size(f.Body)
	}
	b, _ := frame.PutAll(l...)
	spoil(b)
	frame.Put(256, body)
	wantRoom(t, "a body", body, "ab")
	wantRoom(t, "an empty body", other, "")
	if len(l) != 2 || l[0].Kind != 1 || string(l[0].Body) != "ab" || l[1].Kind != 2 || len(l[1].Body) != 0 || l[:3][2].Body != nil || l[:3][2].Kind != 0 {
		t.Errorf("the list is %v now", l[:3])
	}

	text := byWords(1, "ab") + byWords(2, "") + byWords(3, "cdefg") + "\x00"
	all := room(text)
	read, _, _ := frame.Scan(all)
	for _, f := range read {
		spoil(f.Body)
	}
	for _, f := range frame.All(all) {
		spoil(f.Body)
	}
	wantRoom(t, "scanned bytes", all, text)
	single := room(byWords(3, "cdefg"))
	f, _ := frame.One(single)
	spoil(f.Body)
	wantRoom(t, "one frame's bytes", single, byWords(3, "cdefg"))
}

// What is handed in is not kept: answers stay as they were, whatever becomes of it.
func TestHandedInIsNotKept(t *testing.T) {
	body := room("ab")
	l := []api.Frame{{Kind: 1, Body: body}, {Kind: 2, Body: body}}
	put, _ := frame.Put(1, body)
	all, _ := frame.PutAll(l...)
	text := room(byWords(1, "ab") + byWords(2, "cdefg"))
	read, _, _ := frame.Scan(text)
	single := room(byWords(1, "ab"))
	f, _ := frame.One(single)
	over := frame.All(text)
	spoil(body)
	spoil(text)
	spoil(single)
	clear(l)
	wantBytes(t, "Put", put, api.OK, byWords(1, "ab"))
	wantBytes(t, "PutAll", all, api.OK, byWords(1, "ab")+byWords(2, "ab"))
	if !slices.Equal(tell(read), []told{{1, "ab"}, {2, "cdefg"}}) {
		t.Errorf("Scan's frames are %v now", tell(read))
	}
	if f.Kind != 1 || string(f.Body) != "ab" {
		t.Errorf("One's frame is %v now", f)
	}
	wantAll(t, "bytes that are spoilt since", over, placed{0, told{1, "ab"}}, placed{11, told{2, "cdefg"}})
}

// What is told is the caller's: no other answer, and no other frame of the same one, has part of it.
func TestToldIsTheCallers(t *testing.T) {
	text := []byte(byWords(1, "ab") + byWords(2, "") + byWords(3, "cdefg") + byWords(4, "h"))
	want := []told{{1, "ab"}, {2, ""}, {3, "cdefg"}, {4, "h"}}
	for place := range want {
		l, _, _ := frame.Scan(text)
		kept, _, _ := frame.Scan(text)
		spoil(l[place].Body)
		l[place].Body = append(l[place].Body, "more"...)
		for i, f := range tell(l) {
			if i != place && f != want[i] {
				t.Errorf("frame %d is %v, as frame %d is spoilt", i, f, place)
			}
		}
		if !slices.Equal(tell(kept), want) {
			t.Errorf("another Scan's frames are %v now", tell(kept))
		}
	}
	over := frame.All(text)
	var kept []api.Frame
	for _, f := range over {
		kept = append(kept, f)
	}
	for range 2 {
		for _, f := range over {
			spoil(f.Body)
		}
	}
	if !slices.Equal(tell(kept), want) {
		t.Errorf("an elder pass's frames are %v now", tell(kept))
	}
	wantAll(t, "a pass whose frames were spoilt", over, placed{0, want[0]}, placed{11, want[1]}, placed{20, want[2]}, placed{34, want[3]})

	first, _ := frame.Put(1, []byte("ab"))
	second, _ := frame.Put(1, []byte("ab"))
	spoil(first)
	wantBytes(t, "another Put", second, api.OK, byWords(1, "ab"))
	f, _ := frame.One(second)
	again, _ := frame.One(second)
	spoil(f.Body)
	if string(again.Body) != "ab" {
		t.Errorf("another One's body is %q now", again.Body)
	}
}
