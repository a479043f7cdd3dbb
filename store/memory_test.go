package store_test

import (
	"slices"
	"testing"

	"wicket/api"
	"wicket/command"
	"wicket/dedup"
	"wicket/store"
)

// spoil writes over bytes, and over the spare room behind them.
func spoil(b []byte) {
	b = b[:cap(b)]
	for i := range b {
		b[i] = '!'
	}
}

// spoilCommand writes over all that a command holds.
func spoilCommand(c api.Command) {
	ops := c.Call.Ops
	for _, op := range ops[:cap(ops)] {
		for _, b := range [][]byte{op.Key, op.Value, op.Old, op.To} {
			spoil(b)
		}
	}
	clear(ops[:cap(ops)])
}

const heldText = "call 1 1 0 put t k v; swap t k +v b; scan t a z 9"

// held is a command with spare room in all its lists, and what tells whether it was changed.
func held() (api.Command, func(*testing.T)) {
	room := func(text string) []byte { return []byte(text + "....")[:len(text)] }
	ops := append(parsed(heldText).Call.Ops, api.Op{Kind: 9, Table: "spare"})
	for i := range ops[:3] {
		for _, field := range []*[]byte{&ops[i].Key, &ops[i].Value, &ops[i].Old, &ops[i].To} {
			*field = room(string(*field))
		}
	}
	c := parsed(heldText)
	c.Call.Ops = ops[:3]
	return c, func(t *testing.T) {
		t.Helper()
		if text, e := command.Text(c); text != heldText || e != api.OK || ops[3].Kind != 9 || ops[3].Table != "spare" {
			t.Errorf("the command is %q now, %v", text, ops)
		}
		for _, op := range ops[:3] {
			for _, b := range [][]byte{op.Key, op.Value, op.Old, op.To} {
				if string(b[len(b):len(b)+4]) != "...." {
					t.Errorf("spare room is %q now", b[len(b):len(b)+4])
				}
			}
		}
	}
}

// What is handed in is not changed, spare room included, whatever becomes of it.
func TestHandedInIsNotChanged(t *testing.T) {
	c, unchanged := held()
	list := []api.Command{parsed("open 5"), c, parsed("open 6")}
	for _, capacity := range []int{1000, 20, 1} {
		s := opened(t, fresh(t, capacity))
		n, _ := s.Write(list[:2]...)
		s.Write(append(list[:1:1], api.Command{})...)
		synced(t, s)
		for _, e := range s.Waiting() {
			spoilCommand(e.Command)
		}
		for range n {
			done, _ := s.Do()
			spoilCommand(done.Entry.Command)
			spoil(done.Reply.Answer)
		}
	}
	unchanged(t)
	if list[0].Token != 5 || list[2].Token != 6 {
		t.Errorf("the list is %v now", list)
	}
	s, _ := standing(t, 6, 6, 6)
	read, same := parsed("call 2 3 2 get t b; scan t a z 9"), parsed("call 2 3 2 get t b; scan t a z 9")
	b, _ := s.Read(2, read.Call)
	spoil(b)
	if !command.Same(read, same) {
		t.Errorf("the call is %v now", read.Call)
	}
}

// What is handed in is not kept: what is done, what waits, and what the log has, is as it was written.
func TestHandedInIsNotKept(t *testing.T) {
	c, _ := held()
	d := fresh(t, 1000)
	s := opened(t, d)
	list := []api.Command{parsed("open 5"), c, parsed("close 1")}
	if n, e := s.Write(list...); n != 3 || e != api.OK {
		t.Fatal(n, e)
	}
	spoilCommand(c)
	clear(list)
	synced(t, s)
	wantWaiting(t, "spoilt", s, numbered(1, "open 5", heldText, "close 1")...)
	did(t, s, 1)
	wantDo(t, s, "2 "+heldText, "answered 0 1 1 00 03 00 00 00 01 00 00 00 00 01 01 6b 01 62")
	wantState(t, "spoilt", s, after("open 5", heldText))
	wantTold(t, "spoilt", d.Stop(0), after("open 5", heldText, "close 1"), 3, len(d.Log()))
}

// What is told is the caller's: neither the store, nor the disk, nor another answer, nor another part of the same one has it.
func TestToldIsTheCallers(t *testing.T) {
	texts := []string{"open 5", heldText, heldText, "call 1 2 0 put t k v; scan t a z 9"}
	d := fresh(t, 1000)
	s := opened(t, d)
	wrote(t, s, texts...)
	synced(t, s)
	first, second := s.Waiting(), s.Waiting()
	spoilCommand(first[1].Command)
	if entryText(first[2]) != "3 "+heldText {
		t.Errorf("another entry is %v now", first[2])
	}
	for _, e := range first {
		spoilCommand(e.Command)
	}
	clear(first[:cap(first)])
	for i, e := range second {
		if entryText(e) != numbered(1, texts...)[i] {
			t.Errorf("another answer's entry is %v now", e)
		}
	}
	var all []api.Done
	for range texts {
		done, e := s.Do()
		if e != api.OK {
			t.Fatal(e)
		}
		all = append(all, done)
	}
	answer := slices.Clone(all[2].Reply.Answer)
	spoil(all[1].Reply.Answer)
	spoilCommand(all[1].Entry.Command)
	if entryText(all[2].Entry) != "3 "+heldText || !slices.Equal(all[2].Reply.Answer, answer) || len(answer) == 0 {
		t.Errorf("what another one told is %v now", all[2])
	}
	for _, done := range all {
		spoil(done.Reply.Answer)
		spoilCommand(done.Entry.Command)
	}
	wantState(t, "spoilt", s, after(texts...))
	one, _ := s.Read(1, call("scan t a z 9"))
	other, _ := s.Read(1, call("scan t a z 9"))
	spoil(one)
	if string(other) != "\x00\x01\x00\x00\x01\x01k\x01v" {
		t.Errorf("another answer is % x now", other)
	}
	wantState(t, "spoilt", s, after(texts...))
	wantTold(t, "spoilt", d, after(texts...), 4, len(recs(1, texts...)))
}

// A state that is told goes on apart from the store, and from others that are told.
func TestStatesGoOnApart(t *testing.T) {
	s, d := standing(t, 2, 4, 4)
	var told []*dedup.Machine
	for range 2 {
		m, n, e := store.Look(d, job)
		if n != 4 || e != api.OK {
			t.Fatal(n, e)
		}
		told = append(told, m, s.State())
	}
	goOn(told[0], "open 77")
	goOn(told[1], "close 1", "open 78")
	wantState(t, "the store", s, after(story[:2]...))
	if !told[2].Same(after(story[:4]...)) || !told[3].Same(after(story[:2]...)) {
		t.Error("another state is another now")
	}
	did(t, s, 2)
	if !told[3].Same(after(story[:2]...)) {
		t.Error("a state that was told goes on with the store")
	}
	wantTold(t, "the disk", d.Stop(0), after(story[:4]...), 4, len(d.Log()))
}

// A store over a copy of a disk, or over what a stop leaves of it, goes on apart.
func TestStoresGoOnApart(t *testing.T) {
	s, d := standing(t, 2, 4, 5)
	copied, left := d.Copy(), d.Stop(0)
	other, third := opened(t, copied), opened(t, left)
	wrote(t, other, "open 31")
	wrote(t, third, "open 32", "open 33")
	synced(t, third)
	wantNumbers(t, "the first", s, 2, 4, 5)
	wantNumbers(t, "of a copy", other, 5, 5, 6)
	wantNumbers(t, "of what is left", third, 4, 6, 6)
	wantTold(t, "the first's disk", d.Copy(), after(story[:5]...), 5, len(recs(1, story[:5]...)))
	synced(t, s)
	wantWaiting(t, "the first", s, numbered(3, story[2:5]...)...)
	wantWaiting(t, "of what is left", third, numbered(5, "open 32", "open 33")...)
}
