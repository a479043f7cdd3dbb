package wal_test

import (
	"fmt"
	"math"
	"slices"
	"strings"
	"testing"

	"wicket/api"
	"wicket/disk"
	"wicket/wal"
)

func commands(texts ...string) []api.Command {
	var l []api.Command
	for _, text := range texts {
		l = append(l, parsed(text))
	}
	return l
}

func entries(first int64, texts ...string) []api.Entry {
	var l []api.Entry
	for i, text := range texts {
		l = append(l, entry(first+int64(i), text))
	}
	return l
}

func wantMany(t testing.TB, what string, n int, e api.Errno, want int) {
	t.Helper()
	if n != want || e != api.OK {
		t.Errorf("%s: %d, %v; want %d", what, n, e, want)
	}
}

func wantNone(t testing.TB, what string, n int, e, want api.Errno) {
	t.Helper()
	if n != 0 || e != want {
		t.Errorf("%s: %d, %v; want 0, %v", what, n, e, want)
	}
}

// The chapter's examples, row by row.
func TestExamples(t *testing.T) {
	o, c := parsed("open 5"), parsed("close 1")
	wantNoRecord(t, api.Entry{Number: 0, Command: o})
	wantNoRecord(t, api.Entry{Number: 1})

	wantGood(t, "3 and 4", rec(3, "open 5")+rec(4, "close 1"), 24, api.OK, told{0, 3, "open 5"}, told{0, 4, "close 1"})
	wantCorrupt(t, "3 and 5", rec(3, "open 5")+rec(5, "close 1"), 1)
	wantGood(t, "3 and two bytes", rec(3, "open 5")+"\x01\x02", 12, api.ErrTorn, told{0, 3, "open 5"})

	d := fresh(t, 1000)
	n, e := wal.Append(d, 1, o, c)
	wantMany(t, "Append(1, o, c)", n, e, 2)
	l, e := wal.Scan(d)
	if e != api.OK || !slices.Equal(tellAll(l.Entries), numbered(1, "open 5", "close 1")) {
		t.Errorf("Scan: %v, %v", l, e)
	}
	n, e = wal.Append(d, 0, o)
	wantNone(t, "Append(0, o)", n, e, api.ErrArg)
	n, e = wal.Append(d, 3)
	wantMany(t, "Append(3)", n, e, 0)

	n, e = wal.Append(fresh(t, 12), 1, o, o)
	wantMany(t, "room for one record", n, e, 1)

	n, e = wal.Cut(d, 1)
	wantMany(t, "Cut(1) ahead of Sync", n, e, 0)
	d.Sync()
	n, e = wal.Cut(d, 1)
	wantMany(t, "Cut(1) behind it", n, e, 1)
	l, e = wal.Scan(d)
	if e != api.OK || !slices.Equal(tellAll(l.Entries), numbered(2, "close 1")) {
		t.Errorf("Scan: %v, %v", l, e)
	}
}

// P13.2: with each room there may be, as many records from the first on as go into it, in one Write; none of them: no step.
func TestAppendAsThereIsRoom(t *testing.T) {
	texts := []string{"open 5", "call 1 1 0 get t k", "close 300", "call 1 2 1 put t k v", "expire 1"}
	for _, first := range []int64{1, 126, last - api.MaxQueue} {
		all := recs(first, texts...)
		for capacity := 1; capacity <= len(all)+2; capacity++ {
			for _, there := range []string{"", "x", rec(first+7, "open 5"), "more than there is room for"} {
				d, _ := disk.Of(max(capacity, 1), []byte(there))
				many, end := 0, 0
				for many < len(texts) && len(there)+len(recs(first, texts[:many+1]...)) <= capacity {
					many++
					end = len(recs(first, texts[:many]...))
				}
				n, e := wal.Append(d, first, commands(texts...)...)
				wantMany(t, fmt.Sprintf("Append into %d bytes", capacity), n, e, many)
				wantDisk(t, "appended", d, there+all[:end], len(there), min(many, 1))
			}
		}
	}
}

// P13.2: what has no room ends it, even if what stands behind it had room.
func TestAppendStopsAtTheFirstWithoutRoom(t *testing.T) {
	d := fresh(t, 100)
	n, e := wal.Append(d, 1, commands(longText(4096), "open 5")...)
	wantMany(t, "a long one first", n, e, 0)
	wantDisk(t, "a long one first", d, "", 0, 0)
	n, e = wal.Append(d, 1, commands("open 5", "close 1", longText(4096), "open 5", "open 6")...)
	wantMany(t, "a long one in the midst", n, e, 2)
	wantDisk(t, "a long one in the midst", d, recs(1, "open 5", "close 1"), 0, 1)
}

// P13.2: none at all is no step, whatever the room.
func TestAppendNone(t *testing.T) {
	full, _ := disk.Of(3, []byte("abc"))
	for _, d := range []*disk.Disk{fresh(t, 1), fresh(t, 1000), full} {
		log := string(d.Log())
		n, e := wal.Append(d, 3)
		wantMany(t, "Append of none", n, e, 0)
		n, e = wal.Append(d, 3, []api.Command{}...)
		wantMany(t, "Append of an empty list", n, e, 0)
		wantDisk(t, "none", d, log, len(log), 0)
	}
	n, e := wal.Append(full, 1, parsed("open 5"))
	wantMany(t, "Append to a full disk", n, e, 0)
	wantDisk(t, "full", full, "abc", 3, 0)
}

// P13.2: behind each other, with Sync or without it; whatever the log has.
func TestAppendBehindTheLog(t *testing.T) {
	d := fresh(t, 1000)
	wal.Append(d, 1, commands("open 5", "close 1")...)
	d.Sync()
	n, e := wal.Append(d, 3, parsed("open 6"))
	wantMany(t, "a third one", n, e, 1)
	b := recs(1, "open 5", "close 1", "open 6")
	wantDisk(t, "three", d, b, 24, 3)
	if l, e := wal.Scan(d); e != api.OK || !slices.Equal(tellAll(l.Entries), numbered(1, "open 5", "close 1", "open 6")) || l.Good != len(b) || l.Size != len(b) {
		t.Errorf("Scan: %+v, %v", l, e)
	}
	for _, there := range []string{"\x00", framed(2, "abc"), recs(1, "open 5") + "torn"} {
		d := diskOf(t, there)
		n, e := wal.Append(d, 9, parsed("open 6"))
		wantMany(t, "behind whatever there is", n, e, 1)
		wantDisk(t, "behind whatever there is", d, there+rec(9, "open 6"), len(there), 1)
	}
}

// P13.2: of many the numbers go up one by one; MaxQueue of them go, at the greatest first number too.
func TestAppendMany(t *testing.T) {
	var texts []string
	for i := range api.MaxQueue {
		texts = append(texts, someTexts[i%len(someTexts)])
	}
	for _, first := range []int64{1, 100, last - api.MaxQueue} {
		d := fresh(t, api.MaxLog)
		n, e := wal.Append(d, first, commands(texts...)...)
		wantMany(t, "1024 of them", n, e, 1024)
		b := recs(first, texts...)
		wantDisk(t, "1024 of them", d, b, 0, 1)
		wantGood(t, "1024 of them", b, len(b), api.OK, numbered(first, texts...)...)
	}
}

// P13.2: each error, in their order: no disk, a number or a command that may not be, too many; nothing is written.
func TestAppendRefused(t *testing.T) {
	right := commands("open 5", "close 1")
	many := slices.Repeat(commands("open 5"), api.MaxQueue+1)
	for _, d := range []*disk.Disk{nil, {}} {
		for _, first := range []int64{1, 0, math.MinInt64, math.MaxInt64} {
			for _, l := range [][]api.Command{nil, right, {{}}, many} {
				n, e := wal.Append(d, first, l...)
				wantNone(t, "Append to no disk", n, e, api.ErrNil)
			}
		}
	}
	full, _ := disk.Of(3, []byte("abc"))
	for _, d := range []*disk.Disk{fresh(t, 1000), fresh(t, 1), full} {
		log := string(d.Log())
		for _, first := range []int64{math.MinInt64, -1, 0, last - api.MaxQueue + 1, last - 1, last, last + 1, math.MaxInt64 - 1, math.MaxInt64} {
			for _, l := range [][]api.Command{nil, right, {{}}, many} {
				n, e := wal.Append(d, first, l...)
				wantNone(t, fmt.Sprint("Append from on ", first), n, e, api.ErrArg)
			}
		}
		for _, c := range wrongCommands() {
			for place := range 3 {
				n, e := wal.Append(d, 1, slices.Insert(slices.Clone(right), place, c)...)
				wantNone(t, fmt.Sprintf("Append of %.100v at %d", c, place), n, e, api.ErrArg)
			}
			n, e := wal.Append(d, 1, append(slices.Clone(many), c)...)
			wantNone(t, "Append of too many and a wrong one", n, e, api.ErrArg)
		}
		for _, first := range []int64{1, last - api.MaxQueue} {
			for _, l := range [][]api.Command{many, slices.Repeat(many, 3)} {
				n, e := wal.Append(d, first, l...)
				wantNone(t, "Append of too many", n, e, api.ErrLong)
			}
		}
		wantDisk(t, "refused", d, log, len(log), 0)
	}
}

// P13.2: how many bytes the records have, whatever their numbers are; none have none.
func TestSize(t *testing.T) {
	n, e := wal.Size()
	wantMany(t, "Size of none", n, e, 0)
	n, e = wal.Size([]api.Entry{}...)
	wantMany(t, "Size of an empty list", n, e, 0)
	n, e = wal.Size(entry(1, "open 5"))
	wantMany(t, "Size of one", n, e, 12)
	n, e = wal.Size(entry(last, "open 5"))
	wantMany(t, "Size of the last one", n, e, 20)
	n, e = wal.Size(entry(9, longText(4096)), entry(200, "close 1"), entry(200, "close 1"), entry(1, "open 5"))
	wantMany(t, "Size of four", n, e, len(rec(9, longText(4096)))+13+13+12)
	for many := range len(someTexts) + 1 {
		for _, first := range []int64{1, 120, last - 20} {
			n, e := wal.Size(entries(first, someTexts[:many]...)...)
			wantMany(t, "Size of some", n, e, len(recs(first, someTexts[:many]...)))
		}
	}
	n, e = wal.Size(slices.Repeat(entries(1, "open 5"), api.MaxQueue)...)
	wantMany(t, "Size of 1024", n, e, 12*api.MaxQueue)
	n, e = wal.Size(slices.Repeat(entries(1, longText(4096)), api.MaxQueue)...)
	wantMany(t, "Size of 1024 long ones", n, e, len(rec(1, longText(4096)))*api.MaxQueue)
}

// P13.2: entries that may not be, wherever they stand; then too many.
func TestSizeRefused(t *testing.T) {
	many := slices.Repeat(entries(1, "open 5"), api.MaxQueue+1)
	n, e := wal.Size(many...)
	wantNone(t, "Size of too many", n, e, api.ErrLong)
	n, e = wal.Size(slices.Repeat(many, 3)...)
	wantNone(t, "Size of far too many", n, e, api.ErrLong)
	var wrong []api.Entry
	for _, number := range []int64{math.MinInt64, -1, 0, last + 1, math.MaxInt64} {
		wrong = append(wrong, entry(number, "open 5"))
	}
	for _, c := range wrongCommands() {
		wrong = append(wrong, api.Entry{Number: 1, Command: c})
	}
	for _, one := range wrong {
		for place := range 3 {
			n, e := wal.Size(slices.Insert(entries(1, "open 5", "close 1"), place, one)...)
			wantNone(t, fmt.Sprintf("Size with %.100v", one), n, e, api.ErrArg)
		}
		n, e := wal.Size(append(slices.Clone(many), one)...)
		wantNone(t, "Size of too many and a wrong one", n, e, api.ErrArg)
		n, e = wal.Size(append([]api.Entry{one}, many...)...)
		wantNone(t, "Size of a wrong one and too many", n, e, api.ErrArg)
	}
}

// P13.3: up to each number, of a log that begins with each one, with whatever behind it, all of which lasts.
func TestCut(t *testing.T) {
	texts := []string{"open 5", "call 1 1 0 get t k", "close 300", longText(4096), "expire 1"}
	for _, first := range []int64{1, 2, 126, last - 4} {
		for tail := range tails() {
			b := recs(first, texts...) + tail
			for _, upto := range []int64{0, 1, first - 1, first, first + 1, first + 3, first + 4, first + 5, last, math.MaxInt64} {
				d, _ := disk.Of(api.MaxLog, []byte(b), []byte("a"), []byte("b"))
				many := int(max(min(upto-first+1, 5), 0))
				dropped := len(recs(first, texts[:many]...))
				n, e := wal.Cut(d, upto)
				wantMany(t, fmt.Sprintf("Cut(%d) from %d on", upto, first), n, e, many)
				wantDisk(t, "cut", d, b[dropped:], len(b)-dropped, min(many, 1))
				one, _ := d.Snapshot()
				other, _ := d.Spare()
				if string(one) != "a" || string(other) != "b" {
					t.Errorf("the snapshots are %q, %q", one, other)
				}
				n, e = wal.Cut(d, upto)
				wantMany(t, "the same Cut once more", n, e, 0)
				wantDisk(t, "cut once more", d, b[dropped:], len(b)-dropped, min(many, 1))
			}
		}
	}
}

// P13.3: only records that last wholly are dropped: of a log of which each beginning lasts.
func TestCutAsFarAsItLasts(t *testing.T) {
	texts := []string{"open 5", "call 1 1 0 get t k", "close 300"}
	b := recs(4, texts...) + "torn"
	for sure := range len(b) + 1 {
		for upto := range int64(9) {
			d := fresh(t, 1000)
			d.Write([]byte(b[:sure]))
			d.Sync()
			d.Write([]byte(b[sure:]))
			many, dropped := 0, 0
			for many < 3 && int64(4+many) <= upto && len(recs(4, texts[:many+1]...)) <= sure {
				many++
				dropped = len(recs(4, texts[:many]...))
			}
			n, e := wal.Cut(d, upto)
			wantMany(t, fmt.Sprintf("Cut(%d), %d bytes last", upto, sure), n, e, many)
			wantDisk(t, "cut", d, b[dropped:], sure-dropped, 3+min(many, 1))
		}
	}
}

// P13.3: of a log with far more entries than MaxQueue.
func TestCutMany(t *testing.T) {
	var texts []string
	for range 50000 {
		texts = append(texts, "open 5")
	}
	b := recs(1, texts...)
	d := diskOf(t, b)
	n, e := wal.Cut(d, 49998)
	wantMany(t, "Cut of many", n, e, 49998)
	rest := recs(49999, "open 5", "open 5")
	wantDisk(t, "Cut of many", d, rest, len(rest), 1)
}

// P13.3: each error, in their order; nothing is dropped, and no step done.
func TestCutRefused(t *testing.T) {
	for _, d := range []*disk.Disk{nil, {}} {
		for _, upto := range []int64{math.MinInt64, -1, 0, 1, math.MaxInt64} {
			n, e := wal.Cut(d, upto)
			wantNone(t, "Cut of no disk", n, e, api.ErrNil)
		}
	}
	logs := []string{"", "abc", recs(1, "open 5", "close 1"), rec(1, "open 5") + rec(3, "open 5"), framed(2, "")}
	for _, b := range logs {
		d := diskOf(t, b)
		for _, upto := range []int64{math.MinInt64, -2, -1} {
			n, e := wal.Cut(d, upto)
			wantNone(t, "Cut below 0", n, e, api.ErrArg)
		}
		wantDisk(t, "refused", d, b, len(b), 0)
	}
	ahead := recs(4, "open 1", "open 2", "open 3")
	for what, wrong := range wrongRecords() {
		for _, b := range []string{wrong, ahead + wrong, ahead + wrong + ahead, ahead + wrong + "\x00"} {
			for _, upto := range []int64{0, 4, 6, 7, math.MaxInt64} {
				d := diskOf(t, b)
				n, e := wal.Cut(d, upto)
				wantNone(t, "Cut with "+what, n, e, api.ErrCorrupt)
				wantDisk(t, "refused", d, b, len(b), 0)
			}
		}
	}
	// What is wrong need not last.
	d := diskOf(t, ahead)
	d.Write([]byte(rec(9, "open 5")))
	n, e := wal.Cut(d, 5)
	wantNone(t, "Cut with a wrong number that does not last", n, e, api.ErrCorrupt)
	wantDisk(t, "refused", d, ahead+rec(9, "open 5"), len(ahead), 1)
}

// P13.3: a log without a record has nothing to drop.
func TestCutNothing(t *testing.T) {
	for _, b := range []string{"", "\x00", strings.Repeat("\x00", 9), strings.Repeat("\x00", 50) + rec(1, "open 5")} {
		d := diskOf(t, b)
		n, e := wal.Cut(d, 5)
		wantMany(t, "Cut of nothing", n, e, 0)
		wantDisk(t, "Cut of nothing", d, b, len(b), 0)
	}
}
