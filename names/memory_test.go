package names_test

import (
	"testing"

	"wicket/names"
)

// spoil writes over bytes, and over the spare room behind them.
func spoil(b []byte) {
	b = b[:cap(b)]
	for i := range b {
		b[i] = '!'
	}
}

// room is bytes with spare room behind them.
func room(text string) []byte {
	return []byte(text + "....")[:len(text)]
}

func wantRoom(t *testing.T, what string, b []byte, text string) {
	t.Helper()
	if got := string(b[:len(text)+4]); got != text+"...." || len(b) != len(text) {
		t.Errorf("%s: what was handed in is %q now", what, got)
	}
}

// What is handed in is not changed, spare room included, and answers that are spoilt have none of it.
func TestHandedInIsNotChanged(t *testing.T) {
	for _, text := range []string{"", "a", "a%b", "ab\xff", "\xff\xff", "a \x00", "0123456789abcde", "\xfe\xff\xff"} {
		b, other := room(text), room("b"+text)
		names.Key(b)
		names.Value(b)
		names.Cmp(b, other)
		names.In(b, other, b)
		names.In(other, b, b)
		spoil(names.Next(b))
		behind, _ := names.Behind(b)
		spoil(behind)
		for _, ends := range [][2][]byte{{b, other}, {other, b}, {b, nil}, {nil, b}, {b, b}} {
			from, to, _ := names.Meet(ends[0], ends[1], b, nil)
			spoil(from)
			spoil(to)
			from, to, _ = names.Meet(b, other, ends[0], ends[1])
			spoil(from)
			spoil(to)
		}
		names.Text(b)
		wantRoom(t, "bytes", b, text)
		wantRoom(t, "other bytes", other, "b"+text)
	}
}

// What is handed in is not kept: answers stay as they were, whatever becomes of it.
func TestHandedInIsNotKept(t *testing.T) {
	key, front := room("ab"), room("ab\xff")
	from, to, from2, to2 := room("b"), room("x"), room("a"), room("y")
	next := names.Next(key)
	behind, _ := names.Behind(front)
	begin, end, _ := names.Meet(from, to, from2, to2)
	text := names.Text(key)
	for _, b := range [][]byte{key, front, from, to, from2, to2} {
		spoil(b)
	}
	if string(next) != "ab\x00" || string(behind) != "ac" || string(begin) != "b" || string(end) != "x" || text != "ab" {
		t.Errorf("answers are %q, %q, %q, %q, %q now", next, behind, begin, end, text)
	}
}

// What is told is the caller's: no other answer has part of it, and an answer has no spare room that another one has.
func TestToldIsTheCallers(t *testing.T) {
	same := []byte("mm")
	begin, end, _ := names.Meet(same, nil, nil, append(same, 0))
	spoil(begin)
	if string(end) != "mm\x00" {
		t.Errorf("the end is %q, as the beginning is spoilt", end)
	}
	begin, end, _ = names.Meet(same, nil, nil, append(same, 0))
	spoil(end)
	if string(begin) != "mm" {
		t.Errorf("the beginning is %q, as the end is spoilt", begin)
	}
	all := []byte("mmzz")
	begin, end, _ = names.Meet(all[:2], all[2:], all[:1], nil)
	_ = append(begin, "!!!!"...)
	if string(end) != "zz" || string(all) != "mmzz" {
		t.Errorf("the end is %q, as bytes are put behind the beginning", end)
	}
	for range 2 {
		next, again := names.Next(same), names.Next(same)
		behind, _ := names.Behind(same)
		behindAgain, _ := names.Behind(same)
		read, _ := names.Read("a%20b")
		readAgain, _ := names.Read("a%20b")
		spoil(next)
		spoil(behind)
		spoil(read)
		if string(again) != "mm\x00" || string(behindAgain) != "mn" || string(readAgain) != "a b" {
			t.Errorf("other answers are %q, %q, %q now", again, behindAgain, readAgain)
		}
	}
}

// Answers of bytes are cut at their capacity.
func TestAnswersHaveNoSpareRoom(t *testing.T) {
	for n := range 100 {
		b := make([]byte, n)
		next := names.Next(b)
		behind, _ := names.Behind(b)
		begin, end, _ := names.Meet(b, next, nil, nil)
		read, _ := names.Read(names.Text(b))
		for _, a := range [][]byte{next, behind, begin, end, read} {
			if cap(a) != len(a) {
				t.Errorf("an answer of %d bytes has room for %d", len(a), cap(a))
			}
		}
	}
}
