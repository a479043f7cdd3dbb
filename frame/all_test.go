package frame_test

import (
	"iter"
	"slices"
	"strings"
	"testing"

	"wicket/api"
	"wicket/frame"
)

// placed is a frame with its place.
type placed struct {
	place int
	told
}

func passOver(all iter.Seq2[int, api.Frame], most int) []placed {
	var l []placed
	if most == 0 {
		return l
	}
	for place, f := range all {
		l = append(l, placed{place, told{f.Kind, string(f.Body)}})
		if len(l) == most {
			break
		}
	}
	return l
}

func wantAll(t *testing.T, what string, all iter.Seq2[int, api.Frame], want ...placed) {
	t.Helper()
	if got := passOver(all, -1); !slices.Equal(got, want) {
		t.Errorf("All of %s: %.5v of %d, want %.5v of %d", what, got, len(got), want, len(want))
	}
}

// P4.2: each frame with the place at which it begins; nothing of what is torn or bad behind them.
func TestAll(t *testing.T) {
	b := byWords(2, "xy") + byWords(3, "") + byWords(255, "abc") + byWords(3, "")
	want := []placed{{0, told{2, "xy"}}, {11, told{3, ""}}, {20, told{255, "abc"}}, {32, told{3, ""}}}
	for _, rest := range []string{"", "\x00", "\x00\x00\x00\x00\x00\x00\x00\x00", strings.Repeat("\x00", 9), byWords(1, "abcdef")[:14], "\x01\x80\x00\x00\x00abcd", "\x00" + byWords(1, "a")} {
		wantAll(t, "four frames", frame.All([]byte(b+rest)), want...)
	}
	for _, b := range [][]byte{nil, {}, {0}, make([]byte, 8), make([]byte, 9), make([]byte, 100)} {
		all := frame.All(b)
		if all == nil {
			t.Fatalf("All of % x is nil", b)
		}
		wantAll(t, "no frames", all)
	}
	many := frame.All([]byte(strings.Repeat(byWords(6, ""), 100000)))
	places := 0
	for place := range many {
		if place != places {
			t.Fatalf("a place is %d, want %d", place, places)
		}
		places += 9
	}
	if places != 900000 {
		t.Errorf("the places end at %d", places)
	}
}

// P4.2: it may be left at any time, and is gone through from the front each time.
func TestAllLeftAndGoneThroughOnceMore(t *testing.T) {
	b := byWords(2, "xy") + byWords(3, "") + byWords(4, "abc")
	want := []placed{{0, told{2, "xy"}}, {11, told{3, ""}}, {20, told{4, "abc"}}}
	all := frame.All([]byte(b + "\x00"))
	for most := range 4 {
		if got := passOver(all, most); !slices.Equal(got, want[:most]) {
			t.Errorf("left behind %d: %v", most, got)
		}
		wantAll(t, "three frames, once more", all, want...)
		wantAll(t, "three frames, and once more", all, want...)
	}
}

// P4.2: left behind a frame it tells no other one.
func TestAllTellsNothingBehindItsEnd(t *testing.T) {
	all := frame.All([]byte(byWords(2, "xy") + byWords(3, "") + byWords(4, "abc")))
	for most := 1; most < 4; most++ {
		calls := 0
		all(func(int, api.Frame) bool {
			calls++
			return calls < most
		})
		if calls != most {
			t.Errorf("told %d frames, left behind %d", calls, most)
		}
	}
}

// P4.2: passes within passes, and two iterators of the same bytes, know nothing of each other.
func TestAllWithinAll(t *testing.T) {
	b := []byte(byWords(2, "xy") + byWords(3, "") + byWords(4, "abc"))
	want := []placed{{0, told{2, "xy"}}, {11, told{3, ""}}, {20, told{4, "abc"}}}
	all, other := frame.All(b), frame.All(b)
	outer := 0
	for place, f := range all {
		if (placed{place, told{f.Kind, string(f.Body)}}) != want[outer] {
			t.Errorf("the pass outside tells %d, %v", place, f)
		}
		outer++
		wantAll(t, "the same one within", all, want...)
		passOver(all, 1)
		wantAll(t, "another one within", other, want...)
	}
	if outer != 3 {
		t.Errorf("the pass outside told %d frames", outer)
	}
}

// P4.2: of the bytes as they are when it is called, whatever becomes of them ahead of a pass, within one or behind it.
func TestAllOfTheBytesAsTheyAre(t *testing.T) {
	b := []byte(byWords(2, "xy") + byWords(3, "") + byWords(4, "abc"))
	want := []placed{{0, told{2, "xy"}}, {11, told{3, ""}}, {20, told{4, "abc"}}}
	all := frame.All(b)
	copy(b, byWords(5, "uv"))
	wantAll(t, "bytes that are others since", all, want...)
	now := frame.All(b)
	wantAll(t, "these bytes", now, append([]placed{{0, told{5, "uv"}}}, want[1:]...)...)
	seen := 0
	for range now {
		seen++
		clear(b)
	}
	if seen != 3 {
		t.Errorf("told %d frames while the bytes were cleared", seen)
	}
	wantAll(t, "cleared bytes", now, append([]placed{{0, told{5, "uv"}}}, want[1:]...)...)
	wantAll(t, "bytes that are others since", all, want...)
}

// P4.2: several at a time may go through one.
func TestAllAtATime(t *testing.T) {
	all := frame.All([]byte(strings.Repeat(byWords(6, "x"), 100)))
	told := make(chan int)
	for range 4 {
		go func() { told <- len(passOver(all, -1)) }()
	}
	for range 4 {
		if n := <-told; n != 100 {
			t.Errorf("told %d frames", n)
		}
	}
}
