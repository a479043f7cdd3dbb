package command_test

import (
	"testing"
	"unsafe"

	"wicket/api"
	"wicket/command"
)

// spoil writes over bytes, and over the spare room behind them.
func spoil(b []byte) {
	b = b[:cap(b)]
	for i := range b {
		b[i] = '!'
	}
}

// room is bytes with spare room behind them.
func room(text string) []byte {
	return []byte(text + "....")[:len(text)]
}

func wantRoom(t *testing.T, what string, b []byte, text string) {
	t.Helper()
	if got := string(b[:len(text)+4]); got != text+"...." || len(b) != len(text) {
		t.Errorf("%s: what was handed in is %q now", what, got)
	}
}

func spoilCommand(c api.Command) {
	ops := c.Call.Ops[:cap(c.Call.Ops)]
	for i := range ops {
		for _, b := range [][]byte{ops[i].Key, ops[i].Value, ops[i].Old, ops[i].To} {
			spoil(b)
		}
		ops[i] = api.Op{Kind: 7, Table: "!"}
	}
}

const handedText = "call 1 2 0 get t k; put t k v; delete t k; swap t k +o v; scan t a z 5"

// handed is a command with spare room in all its lists, and what tells whether it was changed.
func handed() (api.Command, func(*testing.T)) {
	key, value, old, from, to := room("k"), room("v"), room("o"), room("a"), room("z")
	ops := []api.Op{
		{Kind: api.Get, Table: "t", Key: key}, {Kind: api.Put, Table: "t", Key: key, Value: value}, {Kind: api.Delete, Table: "t", Key: key},
		{Kind: api.Swap, Table: "t", Key: key, Has: true, Old: old, Value: value}, {Kind: api.Scan, Table: "t", Key: from, To: to, Most: 5}, {Kind: 9, Table: "spare"},
	}
	c := calling(1, 2, 0, api.Call{Ops: ops[:5]})
	return c, func(t *testing.T) {
		t.Helper()
		for text, b := range map[string][]byte{"k": key, "v": value, "o": old, "a": from, "z": to} {
			wantRoom(t, "a command", b, text)
		}
		if plainText(c) != handedText || ops[5].Kind != 9 || ops[5].Table != "spare" {
			t.Errorf("the ops are %v now", ops)
		}
	}
}

// What is handed in is not changed, spare room included, and answers that are spoilt have none of it.
func TestHandedInIsNotChanged(t *testing.T) {
	c, unchanged := handed()
	other, otherUnchanged := handed()
	command.Check(c)
	command.Changes(c)
	b, _ := command.Bytes(c)
	command.Text(c)
	command.Same(c, other)
	form := room(string(b))
	read, _ := command.Read(form)
	spoilCommand(read)
	wantRoom(t, "bytes", form, plainForm(c))
	spoil(b)
	unchanged(t)
	otherUnchanged(t)
}

// What is handed in is not changed where it is refused, either.
func TestRefusedIsNotChanged(t *testing.T) {
	c, unchanged := handed()
	for _, set := range []func(*api.Command){
		func(c *api.Command) { c.Kind = api.CommandOpen }, func(c *api.Command) { c.Kind = 0 }, func(c *api.Command) { c.Token = 1 }, func(c *api.Command) { c.Mark = 2 },
		func(c *api.Command) { c.Call.Ops = append(c.Call.Ops[:5:5], api.Op{}) }, func(c *api.Command) { c.Call.Ops = append(c.Call.Ops[:5:5], sized(4097).Ops...) },
	} {
		wrong := c
		set(&wrong)
		command.Check(wrong)
		command.Changes(wrong)
		command.Text(wrong)
		if b, e := command.Bytes(wrong); b != nil || e != api.ErrArg {
			t.Errorf("Bytes(%.200v): % .60x, %v", wrong, b, e)
		}
	}
	unchanged(t)
	form := plainForm(c)
	for at := range len(form) {
		b := room(form[:at])
		command.Read(b)
		wantRoom(t, "bytes", b, form[:at])
	}
}

// What is handed in is not kept: answers stay as they were, whatever becomes of it.
func TestHandedInIsNotKept(t *testing.T) {
	c, _ := handed()
	want := plainForm(c)
	form, _ := command.Bytes(c)
	text, _ := command.Text(c)
	spoilCommand(c)
	if string(form) != want || text != handedText {
		t.Errorf("answers are % x, %q now", form, text)
	}
	b := room(want)
	read, _ := command.Read(b)
	spoil(b)
	if plainText(read) != handedText {
		t.Errorf("the command is %q now", plainText(read))
	}
}

// What is told is the caller's: no other answer has part of it, nor another part of the same answer.
func TestToldIsTheCallers(t *testing.T) {
	c, _ := handed()
	for _, c := range append(eachKind(), c) {
		form, _ := command.Bytes(c)
		again, _ := command.Bytes(c)
		spoil(form)
		if string(again) != plainForm(c) {
			t.Errorf("the other form is % x now", again)
		}
	}
	form, _ := command.Bytes(c)
	for _, read := range []func() (api.Command, api.Errno){func() (api.Command, api.Errno) { return command.Read(form) }, func() (api.Command, api.Errno) { return command.Parse(handedText) }} {
		first, _ := read()
		second, _ := read()
		for i := range first.Call.Ops {
			op := &first.Call.Ops[i]
			for _, field := range []*[]byte{&op.Key, &op.Value, &op.Old, &op.To} {
				was := string(*field)
				spoil(*field)
				*field = []byte(was)
			}
		}
		if plainText(first) != handedText {
			t.Errorf("the command is %q now", plainText(first))
		}
		spoilCommand(first)
		if plainText(second) != handedText {
			t.Errorf("the other command is %q now", plainText(second))
		}
	}
}

// A table's name that is told is no piece of the text that was handed in.
func TestParsedTableIsNew(t *testing.T) {
	s := "call 1 2 0 get tt k"
	c, _ := command.Parse(s)
	from, at := uintptr(unsafe.Pointer(unsafe.StringData(s))), uintptr(unsafe.Pointer(unsafe.StringData(c.Call.Ops[0].Table)))
	if at >= from && at < from+uintptr(len(s)) {
		t.Error("the table's name is a piece of the text")
	}
}
