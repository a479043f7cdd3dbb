package store_test

import (
	"encoding/binary"
	"fmt"
	"hash/crc32"
	"slices"
	"strings"
	"testing"

	"wicket/api"
	"wicket/calls"
	"wicket/command"
	"wicket/dedup"
	"wicket/disk"
	"wicket/snap"
	"wicket/store"
)

const (
	last = 1 << 62   // the greatest number of an entry
	most = 1<<63 - 1 // the greatest number of a snapshot
)

var job = api.Config{Quota: api.Quota{Rows: 9, Bytes: 900}, Window: 4, Queue: 9, Wait: 9, Timeout: 5, Idle: 9, Log: 1000}

// story is commands of which each one changes the state; where a state has some of them, doing the first one once more would
// change it, too, from the third one on.
var story = []string{
	"open 5", "call 1 1 0 put t a 1", "close 1", "open 6", "call 2 1 0 swap t a +1 2; put t b 3", "call 2 2 1 delete t a; scan t % % 9", "expire 2", "open 7", "call 3 1 0 put u c 4",
}

// parsed is the command whose text it is; of a text that is none it panics.
func parsed(text string) api.Command {
	c, e := command.Parse(text)
	if e != api.OK {
		panic(text)
	}
	return c
}

func commands(texts ...string) []api.Command {
	var l []api.Command
	for _, text := range texts {
		l = append(l, parsed(text))
	}
	return l
}

func call(text string) api.Call {
	c, e := calls.Parse(text)
	if e != api.OK {
		panic(text)
	}
	return c
}

func framed(kind byte, body string) string {
	b := binary.BigEndian.AppendUint32([]byte{kind}, uint32(len(body)))
	sum := crc32.Checksum([]byte(string(b)+body), crc32.MakeTable(crc32.Castagnoli))
	return string(binary.BigEndian.AppendUint32(b, sum)) + body
}

// rec is the record of that entry (layer 13), written down by the library's numbers and sums.
func rec(number int64, text string) string {
	form, e := command.Bytes(parsed(text))
	if e != api.OK {
		panic(text)
	}
	return framed(1, digits(uint64(number))+string(form))
}

func digits(n uint64) string {
	return string(binary.AppendUvarint(nil, n))
}

// recs are the records of these entries, the first one's number being first.
func recs(first int64, texts ...string) string {
	var b strings.Builder
	for i, text := range texts {
		b.WriteString(rec(first+int64(i), text))
	}
	return b.String()
}

// after is the state of these commands, done one behind the other, from nothing.
func after(texts ...string) *dedup.Machine {
	m, e := dedup.New(job.Quota, job.Window)
	if e != api.OK {
		panic(e)
	}
	goOn(m, texts...)
	return m
}

func goOn(m *dedup.Machine, texts ...string) {
	for _, text := range texts {
		if _, e := m.Do(parsed(text)); e != api.OK {
			panic(text)
		}
	}
}

// snapshot is the bytes of a state of so many entries (layer 12).
func snapshot(m *dedup.Machine, k int64) string {
	b, e := snap.Put(m, k)
	if e != api.OK {
		panic(e)
	}
	return string(b)
}

// diskOf has this log, all of which lasts, and these snapshots, the last one first.
func diskOf(t testing.TB, log string, snapshots ...string) *disk.Disk {
	t.Helper()
	var l [][]byte
	for _, s := range snapshots {
		l = append(l, []byte(s))
	}
	d, e := disk.Of(api.MaxLog, []byte(log), l...)
	if e != api.OK {
		t.Fatal(e)
	}
	return d
}

func fresh(t testing.TB, capacity int) *disk.Disk {
	t.Helper()
	d, e := disk.New(capacity)
	if e != api.OK {
		t.Fatal(e)
	}
	return d
}

func opened(t testing.TB, d *disk.Disk) *store.Store {
	t.Helper()
	s, e := store.Open(d, job)
	if e != api.OK || s == nil {
		t.Fatalf("Open: %v, %v", s, e)
	}
	return s
}

// wrote writes all of these commands.
func wrote(t testing.TB, s *store.Store, texts ...string) {
	t.Helper()
	if n, e := s.Write(commands(texts...)...); n != len(texts) || e != api.OK {
		t.Fatalf("Write of %d: %d, %v", len(texts), n, e)
	}
}

func synced(t testing.TB, s *store.Store) {
	t.Helper()
	if e := s.Sync(); e != api.OK {
		t.Fatalf("Sync: %v", e)
	}
}

// did does so many entries.
func did(t testing.TB, s *store.Store, many int) {
	t.Helper()
	for range many {
		if _, e := s.Do(); e != api.OK {
			t.Fatalf("Do: %v", e)
		}
	}
}

// standing is a store of the story's entries over its own disk, of which so many are done, last, are written.
func standing(t testing.TB, done, lasting, written int) (*store.Store, *disk.Disk) {
	t.Helper()
	d := fresh(t, 1000)
	s := opened(t, d)
	wrote(t, s, story[:lasting]...)
	synced(t, s)
	did(t, s, done)
	wrote(t, s, story[lasting:written]...)
	return s, d
}

// disked is all that can be told of a disk.
type disked struct {
	log         string
	sure, steps int
	last, spare string // "none", if there is none
}

func see(d *disk.Disk) disked {
	place := func(b []byte, has bool) string {
		if !has {
			return "none"
		}
		return "has " + string(b)
	}
	return disked{string(d.Log()), d.Sure(), d.Steps(), place(d.Snapshot()), place(d.Spare())}
}

func wantDisk(t testing.TB, what string, d *disk.Disk, want disked) {
	t.Helper()
	if got := see(d); got != want {
		t.Errorf("%s: the disk is %.300q, want %.300q", what, fmt.Sprintf("%+v", got), fmt.Sprintf("%+v", want))
	}
}

func wantNumbers(t testing.TB, what string, s *store.Store, done, lasting, written int64) {
	t.Helper()
	if x, y, z := s.Numbers(); x != done || y != lasting || z != written {
		t.Errorf("%s: Numbers: %d %d %d, want %d %d %d", what, x, y, z, done, lasting, written)
	}
}

func wantState(t testing.TB, what string, s *store.Store, want *dedup.Machine) {
	t.Helper()
	if !s.State().Same(want) || want == nil {
		t.Errorf("%s: another state", what)
	}
}

// numbered is entries as texts, each with its number.
func numbered(first int64, texts ...string) []string {
	var l []string
	for i, text := range texts {
		l = append(l, fmt.Sprint(first+int64(i), " ", text))
	}
	return l
}

func entryText(e api.Entry) string {
	text, wrong := command.Text(e.Command)
	if wrong != api.OK {
		text = fmt.Sprint("wrong: ", e.Command)
	}
	return fmt.Sprint(e.Number, " ", text)
}

func wantWaiting(t testing.TB, what string, s *store.Store, want ...string) {
	t.Helper()
	var got []string
	for _, e := range s.Waiting() {
		got = append(got, entryText(e))
	}
	if !slices.Equal(got, want) {
		t.Errorf("%s: Waiting: %q, want %q", what, got, want)
	}
}

func replyText(r api.Reply) string {
	kinds := [...]string{"none", "opened", "full", "answered", "gone", "stale", "ahead", "closed"}
	return fmt.Sprintf("%s %d %d %d % x", kinds[r.Kind], r.Token, r.Session, r.Number, r.Answer)
}

// wantDo: the next entry is done, and tells that.
func wantDo(t testing.TB, s *store.Store, entry, reply string) {
	t.Helper()
	got, e := s.Do()
	if e != api.OK || entryText(got.Entry) != entry || replyText(got.Reply) != reply {
		t.Errorf("Do: %q, %q, %v; want %q, %q", entryText(got.Entry), replyText(got.Reply), e, entry, reply)
	}
}

func wantNothingToDo(t testing.TB, s *store.Store, want api.Errno) {
	t.Helper()
	got, e := s.Do()
	if e != want || got.Entry.Number != 0 || !command.Same(got.Entry.Command, api.Command{}) || got.Reply.Kind != 0 || replyText(got.Reply) != "none 0 0 0 " {
		t.Errorf("Do: %v, %v; want %v", got, e, want)
	}
}

func wantErrno(t testing.TB, what string, got, want api.Errno) {
	t.Helper()
	if got != want {
		t.Errorf("%s: %v, want %v", what, got, want)
	}
}

// wantTold: Look and Open answer that state, of so many entries. Look does no step; Open cuts the log to so many bytes, if it
// has more, and does Sync; once more it does Sync alone, and is the same.
func wantTold(t testing.TB, what string, d *disk.Disk, want *dedup.Machine, entries int64, good int) *store.Store {
	t.Helper()
	at := see(d)
	m, n, e := store.Look(d, job)
	if e != api.OK || n != entries || !m.Same(want) || want == nil {
		t.Fatalf("%s: Look: %d, %v; the state is the same: %v; want %d", what, n, e, m.Same(want), entries)
	}
	wantDisk(t, what+": Look", d, at)
	s := opened(t, d)
	if good < len(at.log) {
		at.steps++
	}
	at.log, at.sure = at.log[:good], good
	for range 2 {
		at.steps++
		wantDisk(t, what+": Open", d, at)
		wantNumbers(t, what+": Open", s, entries, entries, entries)
		wantState(t, what+": Open", s, want)
		wantWaiting(t, what+": Open", s)
		wantNothingToDo(t, s, api.ErrNone)
		s = opened(t, d)
	}
	return s
}

// wantRefused: Look and Open answer that error, and nothing beside it; the disk stays as it is.
func wantRefused(t testing.TB, what string, d *disk.Disk, c api.Config, want api.Errno) {
	t.Helper()
	at := see(d)
	m, n, e := store.Look(d, c)
	if m != nil || n != 0 || e != want {
		t.Errorf("%s: Look: %v, %d, %v; want %v", what, m, n, e, want)
	}
	s, e := store.Open(d, c)
	if s != nil || e != want {
		t.Errorf("%s: Open: %v, %v; want %v", what, s, e, want)
	}
	wantDisk(t, what, d, at)
}
