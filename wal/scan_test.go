package wal_test

import (
	"fmt"
	"math"
	"strings"
	"testing"

	"wicket/api"
	"wicket/command"
	"wicket/disk"
	"wicket/wal"
)

func wantRecord(t *testing.T, number int64, text, want string) {
	t.Helper()
	if b, e := wal.Record(entry(number, text)); string(b) != want || e != api.OK {
		t.Errorf("Record of %d %.100s: % .60x, %v; want % .60x", number, text, b, e, want)
	}
}

func wantNoRecord(t *testing.T, e api.Entry) {
	t.Helper()
	if b, wrong := wal.Record(e); b != nil || wrong != api.ErrArg {
		t.Errorf("Record of %.200v: % .60x, %v", e, b, wrong)
	}
}

// P13.1: the entry's number and the command's bytes, in a frame of the kind 1.
func TestRecord(t *testing.T) {
	wantRecord(t, 1, "open 5", "\x01\x00\x00\x00\x03\x7a\x37\x64\xa5\x01\x01\x0a")
	wantRecord(t, 300, "close 3", framed(1, "\xac\x02\x03\x06"))
	wantRecord(t, 2, "call 1 2 0 get t k", framed(1, "\x02\x02\x02\x04\x00\x06\x01\x01\x01t\x01k"))
	wantRecord(t, last, "expire 1", framed(1, "\x80\x80\x80\x80\x80\x80\x80\x80\x40\x04\x02"))
	for _, text := range append(someTexts, longText(4081), longText(4096)) {
		for _, n := range []int64{1, 2, 63, 64, 127, 128, 129, 16383, 16384, 1<<31 - 1, 1 << 31, 1 << 32, last - 1024, last - 1, last} {
			wantRecord(t, n, text, rec(n, text))
		}
	}
}

// P13.1: numbers and commands that may not be, each alone and both together.
func TestRecordRefused(t *testing.T) {
	for _, n := range []int64{math.MinInt64, math.MinInt64 + 1, -last, -1, 0, last + 1, last + 1024, math.MaxInt64} {
		for _, text := range someTexts {
			wantNoRecord(t, entry(n, text))
		}
		for _, c := range wrongCommands() {
			wantNoRecord(t, api.Entry{Number: n, Command: c})
		}
	}
	for _, c := range wrongCommands() {
		for _, n := range []int64{1, 5, last} {
			wantNoRecord(t, api.Entry{Number: n, Command: c})
		}
	}
	wantNoRecord(t, api.Entry{})
}

// tails are bytes that begin with no frame, and why.
func tails() map[string]api.Errno {
	r := rec(9, "open 5")
	return map[string]api.Errno{
		"":                                   api.OK,
		"\x00":                               api.ErrTorn,
		"\x01\x02":                           api.ErrTorn,
		"\x01\x00\x00\x00\x03\x7a\x37\x64":   api.ErrTorn,
		r[:9]:                                api.ErrTorn,
		r[:len(r)-1]:                         api.ErrTorn,
		"\x01\x7f\xff\xff\xffabcd":           api.ErrTorn,
		"\x02\x00\x00\x00\x05abcdxyz":        api.ErrTorn,
		"\x01\x80\x00\x00\x00abcd":           api.ErrBad,
		strings.Repeat("\x00", 9):            api.ErrBad,
		strings.Repeat("\x00", 100):          api.ErrBad,
		r[:len(r)-1] + "\xff":                api.ErrBad,
		"\x02" + r[1:]:                       api.ErrBad,  // the sum is of the kind, too
		"\x00" + r:                           api.ErrTorn, // its bytes say a length that is not there
		strings.Repeat("\x00", 9) + r:        api.ErrBad,
		r[:len(r)-1] + "\xff" + framed(7, r): api.ErrBad,
	}
}

// P13.1: no entries, one, many; from each number on; with nothing, torn and bad bytes behind them.
func TestEntries(t *testing.T) {
	for tail, why := range tails() {
		wantGood(t, "none", tail, 0, why)
		for _, first := range []int64{1, 3, 127, 1 << 40, last - 11} {
			for many := 1; many <= len(someTexts); many++ {
				b := recs(first, someTexts[:many]...)
				wantGood(t, fmt.Sprintf("%d from %d on", many, first), b+tail, len(b), why, numbered(first, someTexts[:many]...)...)
			}
		}
		wantGood(t, "the last one there may be", rec(last, "open 5")+tail, len(rec(last, "open 5")), why, told{0, last, "open 5"})
	}
	if l, e := wal.Entries(nil); l.Entries != nil || l.Good != 0 || l.Size != 0 || l.Why != api.OK || e != api.OK {
		t.Errorf("Entries of nil: %+v, %v", l, e)
	}
	wantGood(t, "long ones", recs(7, longText(4096), longText(4081)), len(recs(7, longText(4096), longText(4081))), api.OK, numbered(7, longText(4096), longText(4081))...)
}

// P13.1: as many entries as a disk has room for, and more.
func TestManyEntries(t *testing.T) {
	var texts []string
	for i := range 100000 {
		texts = append(texts, someTexts[i%5])
	}
	b := recs(1, texts...)
	wantGood(t, "many", b+"\x01", len(b), api.ErrTorn, numbered(1, texts...)...)
	wantCorrupt(t, "many, and once more the first one", b+rec(1, "open 1"), len(texts))
}

// wrongRecords are whole frames, none of which is an entry's record.
func wrongRecords() map[string]string {
	l := map[string]string{
		"no body":                  framed(1, ""),
		"a number alone":           framed(1, "\x05"),
		"half a number":            framed(1, "\x85"),
		"a command alone":          framed(1, form("close 5")),
		"the number 0":             rec(0, "open 5"),
		"another form of 5":        framed(1, "\x85\x00"+form("open 5")),
		"another form of 0":        framed(1, "\x80\x00"+form("open 5")),
		"2^62 and one":             rec(last+1, "open 5"),
		"2^63 less one":            rec(math.MaxInt64, "open 5"),
		"2^63":                     framed(1, digits(1<<63)+form("open 5")),
		"2^63 and 5":               framed(1, digits(1<<63+5)+form("open 5")),
		"2^64 less one":            framed(1, digits(math.MaxUint64)+form("open 5")),
		"2^64 and 5":               framed(1, "\x85\x80\x80\x80\x80\x80\x80\x80\x80\x02"+form("open 5")),
		"eleven digits":            framed(1, "\x85\x80\x80\x80\x80\x80\x80\x80\x80\x80\x00"+form("open 5")),
		"a byte more":              framed(1, "\x05"+form("open 5")+"\x00"),
		"a byte less":              framed(1, "\x05"+form("open 5")[:1]),
		"two commands":             framed(1, "\x05"+form("open 5")+form("open 5")),
		"a number as bytes":        framed(1, "\x01\x05"+form("open 5")),
		"a command as bytes":       framed(1, "\x05\x02"+form("open 5")),
		"a signed number":          framed(1, "\x80\x80\x80\x80\x80\x80\x80\x80\x80\x01"+form("open 5")),
		"the token 0":              framed(1, "\x05\x01\x00"),
		"a token below 0":          framed(1, "\x05\x01\x01"),
		"another form of a token":  framed(1, "\x05\x01\x8a\x00"),
		"the kind 0":               framed(1, "\x05\x00\x02"),
		"the kind 5":               framed(1, "\x05\x05\x02"),
		"a mark that is as great":  framed(1, "\x05\x02\x02\x04\x04\x06\x01\x01\x01t\x01k"),
		"a call without ops":       framed(1, "\x05\x02\x02\x04\x00\x01\x00"),
		"a frame within":           framed(1, rec(5, "open 5")),
		"a frame behind a number":  framed(1, "\x05"+rec(5, "open 5")),
		"a snapshot's frame":       framed(2, "\x00\x02\x09\x02\x02\x00\x00"),
		"a long call, a byte more": framed(1, "\x05"+tooLong()),
	}
	for kind := range 256 {
		if kind != 1 {
			l[fmt.Sprint("the kind ", kind)] = framed(byte(kind), "\x05"+form("open 5"))
		}
	}
	return l
}

// tooLong is the form that a Call would have whose call has 4097 bytes.
func tooLong() string {
	b, _ := command.Bytes(parsed(longText(4096)))
	value := strings.LastIndex(string(b), "\x8f\x01") // 143 bytes of the last value
	return strings.Replace(string(b[:value]), "\x80\x20", "\x81\x20", 1) + "\x90\x01" + string(b[value+2:]) + "a"
}

// P13.1: a whole frame that is no record, as the first one, in the midst, as the last one, with whatever behind it.
func TestWrongRecords(t *testing.T) {
	for what, wrong := range wrongRecords() {
		for _, tail := range []string{"", "\x00", strings.Repeat("\x00", 9), rec(5, "open 5"), rec(6, "open 5"), wrong} {
			wantCorrupt(t, what, wrong+tail, 0)
			wantCorrupt(t, what+", behind another one", rec(4, "close 1")+wrong+tail, 1)
			wantCorrupt(t, what+", behind three", recs(2, "open 1", "open 2", "open 3")+wrong+tail, 3)
		}
		// Behind what is no frame nothing is read.
		b := rec(4, "close 1")
		wantGood(t, what+", behind bad bytes", b+strings.Repeat("\x00", 9)+wrong, len(b), api.ErrBad, told{0, 4, "close 1"})
	}
	wantGood(t, "a long call, no byte more", rec(5, longText(4096)), len(rec(5, longText(4096))), api.OK, told{0, 5, longText(4096)})
}

// P13.1: each entry's number is the one ahead's and one.
func TestWrongNumbers(t *testing.T) {
	for _, ahead := range []int64{1, 3, 127, 1<<32 + 3, last - 1} {
		for _, n := range []int64{1, 2, 3, ahead - 2, ahead - 1, ahead, ahead + 1, ahead + 2, ahead + 3, ahead + 1<<32, last} {
			if n < 1 || n > last {
				continue
			}
			b := rec(ahead, "open 5") + rec(n, "close 1")
			if n == ahead+1 {
				wantGood(t, "the next one", b, len(b), api.OK, told{0, ahead, "open 5"}, told{0, n, "close 1"})
				continue
			}
			wantCorrupt(t, fmt.Sprintf("%d behind %d", n, ahead), b, 1)
			wantCorrupt(t, fmt.Sprintf("%d behind %d, and torn bytes", n, ahead), b+"\x00", 1)
		}
	}
	wantCorrupt(t, "behind the last one there may be", rec(last, "open 5")+rec(last+1, "open 5"), 1)
	wantCorrupt(t, "the last one twice", rec(last, "open 5")+rec(last, "open 5"), 1)
	wantCorrupt(t, "1 behind the last one", rec(last, "open 5")+rec(1, "open 5"), 1)
	wantCorrupt(t, "the fourth", recs(1, "open 1", "open 2", "open 3")+rec(5, "open 5")+rec(6, "open 5"), 3)
}

// P13.1: Scan of no disk; of disks that have room, that are full, that have more than their room; no step is done.
func TestScan(t *testing.T) {
	for _, d := range []*disk.Disk{nil, {}, new(disk.Disk)} {
		if l, e := wal.Scan(d); e != api.ErrNil || l.Entries != nil || l.Good != 0 || l.Size != 0 || l.Why != api.OK {
			t.Errorf("Scan of no disk: %+v, %v", l, e)
		}
	}
	for _, b := range []string{"", recs(4, "open 5", "close 1"), recs(4, "open 5", "close 1") + "\x01", "\x01"} {
		for _, capacity := range []int{1, len(b), len(b) + 1, 1000} {
			if capacity == 0 {
				continue
			}
			d, _ := disk.Of(capacity, []byte(b), []byte("a snapshot"))
			l, e := wal.Scan(d)
			want := plainScan(b)
			if e != api.OK || len(l.Entries) != len(want.entries) || l.Good != want.good || l.Size != len(b) || l.Why != want.why {
				t.Errorf("Scan of % x, room %d: %+v, %v", b, d.Room(), l, e)
			}
			wantDisk(t, "scanned", d, b, len(b), 0)
		}
	}
	d := fresh(t, 100)
	d.Write([]byte(rec(4, "open 5")))
	if l, e := wal.Scan(d); e != api.OK || len(l.Entries) != 1 || d.Sure() != 0 || d.Steps() != 1 {
		t.Errorf("Scan of what does not last yet: %+v, %v", l, e)
	}
	d.Write([]byte(rec(6, "open 5")))
	if l, e := wal.Scan(d); e != api.ErrCorrupt || l.Entries != nil || l.Good != 0 || l.Size != 0 {
		t.Errorf("Scan of 4 and 6: %+v, %v", l, e)
	}
}
