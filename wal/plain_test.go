package wal_test

import (
	"encoding/binary"
	"fmt"
	"hash/crc32"
	"math/rand"
	"slices"
	"strings"
	"testing"

	"wicket/api"
	"wicket/calls"
	"wicket/command"
	"wicket/disk"
	"wicket/wal"
)

// What the chapter's section 'Words' says, written down once more, by the library's numbers and sums. Commands are layer 9's.

const last = 1 << 62 // the greatest number of an entry

// parsed is the command whose text it is; of a text that is none it panics.
func parsed(text string) api.Command {
	c, e := command.Parse(text)
	if e != api.OK {
		panic(text)
	}
	return c
}

func entry(number int64, text string) api.Entry {
	return api.Entry{Number: number, Command: parsed(text)}
}

// form is a command's bytes.
func form(text string) string {
	b, e := command.Bytes(parsed(text))
	if e != api.OK {
		panic(text)
	}
	return string(b)
}

func framed(kind byte, body string) string {
	b := binary.BigEndian.AppendUint32([]byte{kind}, uint32(len(body)))
	sum := crc32.Checksum([]byte(string(b)+body), crc32.MakeTable(crc32.Castagnoli))
	return string(binary.BigEndian.AppendUint32(b, sum)) + body
}

func digits(n uint64) string {
	return string(binary.AppendUvarint(nil, n))
}

// rec is the record of that entry, whether it may be or not.
func rec(number int64, text string) string {
	return framed(1, digits(uint64(number))+form(text))
}

// recs are the records of these entries, the first one's number being first.
func recs(first int64, texts ...string) string {
	var b strings.Builder
	for i, text := range texts {
		b.WriteString(rec(first+int64(i), text))
	}
	return b.String()
}

// told is an entry in a form that can be held against another one.
type told struct {
	place  int // of its record's first byte; 0, if nobody asks
	number int64
	text   string
}

func tell(place int, e api.Entry) told {
	text, wrong := command.Text(e.Command)
	if wrong != api.OK {
		text = fmt.Sprint("wrong: ", e.Command)
	}
	return told{place, e.Number, text}
}

func tellAll(l []api.Entry) []told {
	var all []told
	for _, e := range l {
		all = append(all, tell(0, e))
	}
	return all
}

// numbered are these commands' entries, without places.
func numbered(first int64, texts ...string) []told {
	var l []told
	for i, text := range texts {
		l = append(l, told{0, first + int64(i), text})
	}
	return l
}

// plainLog is what the words say of bytes.
type plainLog struct {
	entries []told // with their places; those ahead of what is wrong, if something is
	good    int
	why     api.Errno
	corrupt bool
}

func plainScan(b string) plainLog {
	var l plainLog
	for l.good < len(b) {
		rest := b[l.good:]
		if len(rest) < 9 {
			l.why = api.ErrTorn
			return l
		}
		size := int(binary.BigEndian.Uint32([]byte(rest[1:5])))
		if size > 1<<31-1 {
			l.why = api.ErrBad
			return l
		}
		if len(rest) < 9+size {
			l.why = api.ErrTorn
			return l
		}
		body := rest[9 : 9+size]
		if framed(rest[0], body) != rest[:9+size] {
			l.why = api.ErrBad
			return l
		}
		n, c, ok := plainBody(body)
		if rest[0] != 1 || !ok || len(l.entries) > 0 && n != l.entries[len(l.entries)-1].number+1 {
			l.corrupt = true
			return l
		}
		l.entries = append(l.entries, tell(l.good, api.Entry{Number: n, Command: c}))
		l.good += 9 + size
	}
	return l
}

func plainBody(body string) (int64, api.Command, bool) {
	n, size := binary.Uvarint([]byte(body))
	if size <= 0 || digits(n) != body[:size] || n < 1 || n > last {
		return 0, api.Command{}, false
	}
	c, e := command.Read([]byte(body[size:]))
	return int64(n), c, e == api.OK
}

// shortly is what a failure tells of many entries.
func shortly(l []told) string {
	return fmt.Sprintf("%.300s", fmt.Sprint(l))
}

func unplaced(l []told) []told {
	l = slices.Clone(l)
	for i := range l {
		l[i].place = 0
	}
	return l
}

// wantScanned: Entries, Scan and All of these bytes are as the words say; it tells what they say.
func wantScanned(t testing.TB, what, b string) plainLog {
	t.Helper()
	want := plainScan(b)
	wantLogged(t, what, b, want)
	wantAll(t, what, wal.All([]byte(b)), want.entries...)
	return want
}

func wantLogged(t testing.TB, what, b string, want plainLog) {
	t.Helper()
	e, l := api.OK, api.Logged{Good: want.good, Size: len(b), Why: want.why}
	entries := unplaced(want.entries)
	if want.corrupt {
		e, l, entries = api.ErrCorrupt, api.Logged{}, nil
	}
	d := diskOf(t, b)
	scanned, e2 := wal.Scan(d)
	got, e1 := wal.Entries([]byte(b))
	for i, got := range []api.Logged{got, scanned} {
		wrong := []api.Errno{e1, e2}[i]
		if wrong != e || !slices.Equal(tellAll(got.Entries), entries) || got.Good != l.Good || got.Size != l.Size || got.Why != l.Why || len(entries) == 0 && got.Entries != nil {
			t.Errorf("%s: %s of % .60x: %s of %d, good %d of %d, why %d, %v; want %s of %d, %+v, %v", what, []string{"Entries", "Scan"}[i], b,
				shortly(tellAll(got.Entries)), len(got.Entries), got.Good, got.Size, got.Why, wrong, shortly(entries), len(entries), l, e)
		}
	}
	wantDisk(t, what+": scanned", d, b, len(b), 0)
}

// wantGood: these bytes have just these entries.
func wantGood(t testing.TB, what, b string, good int, why api.Errno, entries ...told) {
	t.Helper()
	l := wantScanned(t, what, b)
	if l.corrupt || l.good != good || l.why != why || !slices.Equal(unplaced(l.entries), entries) {
		t.Errorf("%s: the words say %.300s; want %s, good %d, why %v", what, fmt.Sprintf("%+v", l), shortly(entries), good, why)
	}
}

// wantCorrupt: these bytes are refused, behind so many entries.
func wantCorrupt(t testing.TB, what, b string, ahead int) {
	t.Helper()
	if l := wantScanned(t, what, b); !l.corrupt || len(l.entries) != ahead {
		t.Errorf("%s: the words say %.300s; want %d entries, and what is corrupt", what, fmt.Sprintf("%+v", l), ahead)
	}
}

// diskOf has these bytes as its log, all of which last.
func diskOf(t testing.TB, log string) *disk.Disk {
	t.Helper()
	d, e := disk.Of(api.MaxLog, []byte(log))
	if e != api.OK {
		t.Fatal(e)
	}
	return d
}

func fresh(t testing.TB, capacity int) *disk.Disk {
	t.Helper()
	d, e := disk.New(capacity)
	if e != api.OK {
		t.Fatal(e)
	}
	return d
}

// wantDisk: its log, how much of it lasts, and how many steps were done.
func wantDisk(t testing.TB, what string, d *disk.Disk, log string, sure, steps int) {
	t.Helper()
	if string(d.Log()) != log || d.Sure() != sure || d.Steps() != steps {
		t.Errorf("%s: % .60x of %d, %d last, %d steps; want % .60x of %d, %d, %d", what, d.Log(), len(d.Log()), d.Sure(), d.Steps(), log, len(log), sure, steps)
	}
}

var someTexts = []string{
	"open 1", "open 5", "open 9223372036854775807", "close 1", "close 300", "expire 1", "expire 4611686018427387904", "call 1 1 0 get t k", "call 1 2 1 put t k v",
	"call 3 70 64 delete t k; get t k", "call 1 2 0 swap t k - v; scan t % % 64", "call 2 9 0 swap t k +a b",
}

func someText(r *rand.Rand) string {
	return someTexts[r.Intn(len(someTexts))]
}

// longText is a Call whose call's form has so many bytes, from 4081 to 4096.
func longText(many int) string {
	text := "call 1 1 0 "
	for range 15 {
		text += "put t k " + strings.Repeat("a", 256) + "; "
	}
	return text + "put t k " + strings.Repeat("a", many-3953)
}

// wrongCommands may not be.
func wrongCommands() []api.Command {
	call, long := parsed("call 1 2 1 put t k v"), parsed(longText(4096))
	long.Call.Ops = append(slices.Clone(long.Call.Ops[:15]), api.Op{Kind: api.Put, Table: "t", Key: []byte("k"), Value: make([]byte, 144)})
	if calls.Check(long.Call) != api.ErrLong {
		panic("the call is not too long")
	}
	l := []api.Command{{}, {Kind: 5, Session: 1}, {Kind: -1, Session: 1}, {Kind: api.CommandOpen}, {Kind: api.CommandOpen, Token: -1}, {Kind: api.CommandOpen, Token: 1, Session: 1},
		{Kind: api.CommandClose}, {Kind: api.CommandClose, Session: 1, Token: 1}, {Kind: api.CommandExpire, Session: -1}, {Kind: api.CommandExpire, Session: 1, Call: call.Call}, {Kind: api.CommandCall, Session: 1, Number: 1}, long}
	for _, set := range []func(*api.Command){func(c *api.Command) { c.Session = 0 }, func(c *api.Command) { c.Number = 0 }, func(c *api.Command) { c.Mark = -1 }, func(c *api.Command) { c.Mark = 2 }, func(c *api.Command) { c.Token = 1 }} {
		wrong := call
		set(&wrong)
		l = append(l, wrong)
	}
	return l
}
