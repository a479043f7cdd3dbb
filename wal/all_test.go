package wal_test

import (
	"iter"
	"slices"
	"strings"
	"testing"

	"wicket/api"
	"wicket/wal"
)

// passOver tells at most so many entries; all of them, if most is below 0.
func passOver(all iter.Seq2[int, api.Entry], most int) []told {
	var l []told
	if most == 0 {
		return l
	}
	for place, e := range all {
		l = append(l, tell(place, e))
		if len(l) == most {
			break
		}
	}
	return l
}

func wantAll(t testing.TB, what string, all iter.Seq2[int, api.Entry], want ...told) {
	t.Helper()
	if got := passOver(all, -1); !slices.Equal(got, want) {
		t.Errorf("%s: All: %s of %d, want %s of %d", what, shortly(got), len(got), shortly(want), len(want))
	}
}

var three = []told{{0, 7, "open 5"}, {12, 8, "call 1 1 0 get t k"}, {33, 9, "close 1"}}

// P13.4: each entry with its record's place, up to the first that is none.
func TestAll(t *testing.T) {
	b := recs(7, "open 5", "call 1 1 0 get t k", "close 1")
	for tail := range tails() {
		wantAll(t, "three", wal.All([]byte(b+tail)), three...)
		wantAll(t, "none", wal.All([]byte(tail)))
	}
	for what, wrong := range wrongRecords() {
		wantAll(t, what, wal.All([]byte(b+wrong+rec(10, "open 5"))), three...)
		wantAll(t, what, wal.All([]byte(rec(7, "open 5")+wrong+rec(8, "open 5"))), three[:1]...)
		wantAll(t, what, wal.All([]byte(wrong+b)))
	}
	for _, n := range []int64{1, 7, 9, 11, last} {
		wantAll(t, "another number", wal.All([]byte(b+rec(n, "open 5"))), three...)
	}
	for _, b := range [][]byte{nil, {}} {
		all := wal.All(b)
		if all == nil {
			t.Fatal("All of nothing is nil")
		}
		wantAll(t, "nothing", all)
	}
}

// P13.4: it may be left anywhere, and is gone over from the front each time; what is left behind an entry tells no other one.
func TestAllLeftAndGoneOverAgain(t *testing.T) {
	b := recs(7, "open 5", "call 1 1 0 get t k", "close 1")
	for _, tail := range []string{"", "\x00", framed(2, ""), rec(7, "open 5")} {
		all := wal.All([]byte(b + tail))
		for most := range 4 {
			if got := passOver(all, most); !slices.Equal(got, three[:most]) {
				t.Errorf("left behind %d: %v", most, got)
			}
			wantAll(t, "once more", all, three...)
			wantAll(t, "and once more", all, three...)
		}
		for most := 1; most < 5; most++ {
			calls := 0
			all(func(int, api.Entry) bool {
				calls++
				return calls < most
			})
			if calls != min(most, 3) {
				t.Errorf("told %d entries, left behind %d", calls, most)
			}
		}
	}
}

// P13.4: passes within passes, and two iterators of the same bytes, know nothing of each other.
func TestAllWithinAll(t *testing.T) {
	b := []byte(recs(7, "open 5", "call 1 1 0 get t k", "close 1"))
	all, other := wal.All(b), wal.All(b)
	outer := 0
	for place, e := range all {
		if tell(place, e) != three[outer] {
			t.Errorf("the pass outside tells %d, %v", place, e)
		}
		outer++
		wantAll(t, "the same one within", all, three...)
		passOver(all, 1)
		wantAll(t, "another one within", other, three...)
	}
	if outer != 3 {
		t.Errorf("the pass outside told %d entries", outer)
	}
}

// P13.4: of b as it was when All was called, whatever becomes of it ahead of a pass, within one or behind it.
func TestAllOfTheBytesAsTheyWere(t *testing.T) {
	b := []byte(recs(7, "open 5", "call 1 1 0 get t k", "close 1"))
	all := wal.All(b)
	copy(b, rec(7, "open 6"))
	wantAll(t, "bytes that are others since", all, three...)
	now := wal.All(b)
	changed := append([]told{{0, 7, "open 6"}}, three[1:]...)
	seen := 0
	for range now {
		seen++
		clear(b)
	}
	if seen != 3 {
		t.Errorf("told %d entries while the bytes were cleared", seen)
	}
	wantAll(t, "cleared bytes", now, changed...)
	wantAll(t, "bytes that are others since", all, three...)
}

// P13.4: what a pass tells is the caller's: neither another pass nor another entry has part of it.
func TestAllTellsNewEntries(t *testing.T) {
	text := "call 1 2 1 put t k v; swap t k +a b; scan t a z 9"
	all := wal.All([]byte(recs(1, text, text)))
	var kept []api.Entry
	for _, e := range all {
		kept = append(kept, e)
	}
	for _, e := range all {
		spoilEntry(e)
	}
	wantAll(t, "spoilt", all, told{0, 1, text}, told{len(rec(1, text)), 2, text})
	spoilEntry(kept[0])
	if tell(0, kept[1]) != (told{0, 2, text}) {
		t.Errorf("the other entry is %v now", kept[1])
	}
}

// P13.4: several at a time may go over one.
func TestAllAtATime(t *testing.T) {
	var texts []string
	for range 100 {
		texts = append(texts, "open 5")
	}
	all := wal.All([]byte(recs(1, texts...) + strings.Repeat("\x00", 9)))
	told := make(chan int)
	for range 4 {
		go func() { told <- len(passOver(all, -1)) }()
	}
	for range 4 {
		if n := <-told; n != 100 {
			t.Errorf("told %d entries", n)
		}
	}
}
