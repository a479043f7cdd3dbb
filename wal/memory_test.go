package wal_test

import (
	"testing"

	"wicket/api"
	"wicket/command"
	"wicket/wal"
)

// spoil writes over bytes, and over the spare room behind them.
func spoil(b []byte) {
	b = b[:cap(b)]
	for i := range b {
		b[i] = '!'
	}
}

// spoilEntry writes over all that an entry holds.
func spoilEntry(e api.Entry) {
	ops := e.Command.Call.Ops
	for _, op := range ops[:cap(ops)] {
		for _, b := range [][]byte{op.Key, op.Value, op.Old, op.To} {
			spoil(b)
		}
	}
	clear(ops[:cap(ops)])
}

const heldText = "call 1 2 1 put t k v; swap t k +a b; scan t a z 9"

// held is a command with spare room in all its lists, and what tells whether it was changed.
func held() (api.Command, func(*testing.T)) {
	room := func(text string) []byte { return []byte(text + "....")[:len(text)] }
	ops := append(parsed(heldText).Call.Ops, api.Op{Kind: 9, Table: "spare"})
	for i := range ops[:3] {
		for _, field := range []*[]byte{&ops[i].Key, &ops[i].Value, &ops[i].Old, &ops[i].To} {
			*field = room(string(*field))
		}
	}
	c := parsed(heldText)
	c.Call.Ops = ops[:3]
	return c, func(t *testing.T) {
		t.Helper()
		if text, e := command.Text(c); text != heldText || e != api.OK || ops[3].Kind != 9 || ops[3].Table != "spare" {
			t.Errorf("the command is %q now, %v", text, ops)
		}
		for _, op := range ops[:3] {
			for _, b := range [][]byte{op.Key, op.Value, op.Old, op.To} {
				if string(b[len(b):len(b)+4]) != "...." {
					t.Errorf("spare room is %q now", b[len(b):len(b)+4])
				}
			}
		}
	}
}

// What is handed in is not changed, spare room included, where it is refused too.
func TestHandedInIsNotChanged(t *testing.T) {
	c, unchanged := held()
	list := []api.Command{c, parsed("open 5"), parsed("open 6")}
	l := []api.Entry{{Number: 1, Command: c}, entry(2, "open 5"), entry(3, "open 6")}
	for _, n := range []int64{1, 0} {
		b, _ := wal.Record(api.Entry{Number: n, Command: c})
		spoil(b)
		wal.Append(fresh(t, 1000), n, list[:2]...)
		wal.Append(fresh(t, 10), n, list[:2]...)
		l[0].Number = n
		wal.Size(l[:2]...)
	}
	unchanged(t)
	if list[2].Token != 6 || l[2].Number != 3 || l[1].Number != 2 || list[1].Token != 5 {
		t.Errorf("the lists are %v, %v now", list, l)
	}
	for _, text := range []string{"", recs(1, heldText, "open 5"), recs(1, heldText) + "torn", recs(1, heldText) + rec(3, "open 5")} {
		b := []byte(text + "....")
		logged, _ := wal.Entries(b[:len(text)])
		for _, e := range logged.Entries {
			spoilEntry(e)
		}
		for _, e := range wal.All(b[:len(text)]) {
			spoilEntry(e)
		}
		if string(b) != text+"...." {
			t.Errorf("% x is % x now", text, b)
		}
	}
}

// What is handed in is not kept: a log stays as it was written, whatever becomes of the commands.
func TestHandedInIsNotKept(t *testing.T) {
	c, _ := held()
	d := fresh(t, 1000)
	b, _ := wal.Record(api.Entry{Number: 1, Command: c})
	wal.Append(d, 1, c)
	spoilEntry(api.Entry{Command: c})
	wantDisk(t, "the command is spoilt", d, rec(1, heldText), 0, 1)
	if string(b) != rec(1, heldText) {
		t.Errorf("the record is % x now", b)
	}
	log := []byte(recs(1, heldText, heldText))
	l, _ := wal.Entries(log)
	spoil(log)
	for i, e := range l.Entries {
		if tell(0, e) != (told{0, int64(i + 1), heldText}) {
			t.Errorf("an entry is %v now", e)
		}
	}
}

// What is told is the caller's: neither the disk, nor another answer, nor another part of the same one has any of it.
func TestToldIsTheCallers(t *testing.T) {
	b := recs(1, heldText, heldText)
	d := diskOf(t, b)
	first, _ := wal.Scan(d)
	second, _ := wal.Scan(d)
	spoilEntry(first.Entries[0])
	if tell(0, first.Entries[1]) != (told{0, 2, heldText}) {
		t.Errorf("another entry is %v now", first.Entries[1])
	}
	spoilEntry(first.Entries[1])
	clear(first.Entries[:cap(first.Entries)])
	for i, e := range second.Entries {
		if tell(0, e) != (told{0, int64(i + 1), heldText}) {
			t.Errorf("another answer's entry is %v now", e)
		}
	}
	wantDisk(t, "spoilt", d, b, len(b), 0)
	one, _ := wal.Record(entry(1, heldText))
	other, _ := wal.Record(entry(1, heldText))
	spoil(one)
	if string(other) != rec(1, heldText) {
		t.Errorf("another record is % x now", other)
	}
}
