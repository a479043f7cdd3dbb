package message_test

import (
	"testing"
	"unsafe"

	"wicket/api"
	"wicket/message"
)

// spoil writes over bytes, and over the spare room behind them.
func spoil(b []byte) {
	b = b[:cap(b)]
	for i := range b {
		b[i] = '!'
	}
}

// spoilMessage writes over all lists of a message, and over what is in them.
func spoilMessage(m api.Message) {
	spoil(m.Tell.Answer)
	ops := m.Ask.Call.Ops[:cap(m.Ask.Call.Ops)]
	for i := range ops {
		for _, b := range [][]byte{ops[i].Key, ops[i].Value, ops[i].Old, ops[i].To} {
			spoil(b)
		}
		ops[i] = api.Op{Kind: 7, Table: "!"}
	}
}

// room is bytes with spare room behind them.
func room(text string) []byte {
	return []byte(text + "....")[:len(text)]
}

func wantRoom(t *testing.T, what string, b []byte, text string) {
	t.Helper()
	if got := string(b[:len(text)+4]); got != text+"...." || len(b) != len(text) {
		t.Errorf("%s: what was handed in is %q now", what, got)
	}
}

// handed is a message that asks, with spare room in all its lists, and what tells whether it was changed.
func handed() (api.Message, func(*testing.T)) {
	key, value, old, from, to := room("k"), room("v"), room("o"), room("a"), room("z")
	ops := []api.Op{
		{Kind: api.Get, Table: "t", Key: key}, {Kind: api.Put, Table: "t", Key: key, Value: value}, {Kind: api.Delete, Table: "t", Key: key},
		{Kind: api.Swap, Table: "t", Key: key, Has: true, Old: old, Value: value}, {Kind: api.Scan, Table: "t", Key: from, To: to, Most: 5}, {Kind: 9, Table: "spare"},
	}
	m := asks(1, calling(1, 2, 0, api.Call{Ops: ops[:5]}))
	m.Tell.Answer = room("")
	return m, func(t *testing.T) {
		t.Helper()
		for text, b := range map[string][]byte{"k": key, "v": value, "o": old, "a": from, "z": to, "": m.Tell.Answer} {
			wantRoom(t, "a message that asks", b, text)
		}
		if !same(m, likeHanded()) || ops[5].Kind != 9 || ops[5].Table != "spare" {
			t.Errorf("the ops are %v now", ops)
		}
	}
}

func likeHanded() api.Message {
	return asks(1, calling(1, 2, 0, parsed("get t k; put t k v; delete t k; swap t k +o v; scan t a z 5")))
}

const handedAnswer = "\x00\x01\x00\x00\x02\x01a\x01b\x02ab\x00"

// handedTell is a message that tells, with spare room in all its lists, and what tells whether it was changed.
func handedTell() (api.Message, func(*testing.T)) {
	answer := room(handedAnswer)
	ops := []api.Op{{Kind: 9, Table: "spare"}}
	m := tells(1, answered(3, 4, answer))
	m.Ask.Call.Ops = ops[:0]
	return m, func(t *testing.T) {
		t.Helper()
		wantRoom(t, "a message that tells", answer, handedAnswer)
		if ops[0].Kind != 9 || ops[0].Table != "spare" || !same(m, tells(1, answered(3, 4, []byte(handedAnswer)))) {
			t.Errorf("the message is %v now, the spare op %v", m, ops[0])
		}
	}
}

// What is handed in is not changed, spare room included, and answers that are spoilt have none of it.
func TestHandedInIsNotChanged(t *testing.T) {
	for _, make := range []func() (api.Message, func(*testing.T)){handed, handedTell} {
		m, unchanged := make()
		other, otherUnchanged := make()
		message.Check(m)
		message.Same(m, other)
		made, _ := message.Ask(m.Client, m.Ask)
		spoilMessage(made)
		made, _ = message.Tell(m.Client, m.Tell)
		spoilMessage(made)
		b, _ := message.Bytes(m)
		form := room(string(b))
		spoil(b)
		read, _ := message.Read(form)
		spoilMessage(read)
		wantRoom(t, "bytes", form, plainForm(m))
		l := []api.Message{m, other, {}, asks(5, opening(55))}
		for _, b := range message.Each(l[:2]...) {
			spoil(b)
		}
		if !zero(l[2]) || !same(l[3], asks(5, opening(55))) {
			t.Errorf("the spare room is %v now", l[2:])
		}
		unchanged(t)
		otherUnchanged(t)
	}
}

// What is handed in is not changed where it is refused, either.
func TestRefusedIsNotChanged(t *testing.T) {
	for _, make := range []func() (api.Message, func(*testing.T)){handed, handedTell} {
		m, unchanged := make()
		for _, set := range []func(*api.Message){
			func(m *api.Message) { m.Kind = 0 }, func(m *api.Message) { m.Kind = 3 - m.Kind }, func(m *api.Message) { m.Client = 8 },
			func(m *api.Message) { m.Ask.Kind, m.Tell.Kind = m.Ask.Kind+1, m.Tell.Kind+1 }, func(m *api.Message) { m.Ask.Token, m.Tell.Token = 1, 1 },
			func(m *api.Message) { m.Ask.Session, m.Tell.Session = 0, 0 },
		} {
			wrong := m
			set(&wrong)
			message.Check(wrong)
			message.Ask(wrong.Client, wrong.Ask)
			message.Tell(wrong.Client, wrong.Tell)
			message.Same(m, wrong)
			passOver(message.Each(wrong), -1)
			if b, e := message.Bytes(wrong); b != nil || e != api.ErrArg {
				t.Errorf("Bytes(%s): % .60x, %v", shortly(wrong), b, e)
			}
		}
		unchanged(t)
		form := plainForm(m)
		for at := range len(form) {
			b := room(form[:at])
			message.Read(b)
			wantRoom(t, "bytes", b, form[:at])
		}
	}
}

// What is handed in is not kept: answers stay as they were, whatever becomes of it.
func TestHandedInIsNotKept(t *testing.T) {
	m, _ := handed()
	made, _ := message.Ask(1, m.Ask)
	form, _ := message.Bytes(m)
	spoilMessage(m)
	if !same(made, likeHanded()) || string(form) != plainForm(likeHanded()) {
		t.Errorf("answers are %v, % x now", made, form)
	}
	tell, _ := handedTell()
	like := tells(1, answered(3, 4, []byte(handedAnswer)))
	told, _ := message.Tell(1, tell.Tell)
	form, _ = message.Bytes(tell)
	spoilMessage(tell)
	if !same(told, like) || string(form) != plainForm(like) {
		t.Errorf("answers are %v, % x now", told, form)
	}
	for _, like := range append(eachKind(), likeHanded(), like) {
		b := room(plainForm(like))
		read, _ := message.Read(b)
		spoil(b)
		if !same(read, like) {
			t.Errorf("the message is %v now", read)
		}
	}
}

// What is told is the caller's: no other answer has part of it, nor another part of the same answer.
func TestToldIsTheCallers(t *testing.T) {
	for _, m := range append(eachKind(), likeHanded()) {
		form, _ := message.Bytes(m)
		again, _ := message.Bytes(m)
		spoil(form)
		if string(again) != plainForm(m) {
			t.Errorf("the other bytes are % x now", again)
		}
		for _, make := range []func() (api.Message, api.Errno){
			func() (api.Message, api.Errno) { return message.Read(again) },
			func() (api.Message, api.Errno) {
				if m.Kind == api.MessageAsk {
					return message.Ask(m.Client, m.Ask)
				}
				return message.Tell(m.Client, m.Tell)
			},
		} {
			first, _ := make()
			second, _ := make()
			for i := range first.Ask.Call.Ops {
				op := &first.Ask.Call.Ops[i]
				for _, field := range []*[]byte{&op.Key, &op.Value, &op.Old, &op.To} {
					was := string(*field)
					spoil(*field)
					*field = []byte(was)
				}
			}
			if !same(first, m) {
				t.Errorf("the message is %v now", first)
			}
			spoilMessage(first)
			if !same(second, m) {
				t.Errorf("the other message is %v now", second)
			}
		}
	}
}

// A table's name that is told is no piece of what was handed in.
func TestTableIsNew(t *testing.T) {
	c := parsed("get tt k")
	m, _ := message.Ask(1, calling(1, 2, 0, c))
	if unsafe.StringData(c.Ops[0].Table) == unsafe.StringData(m.Ask.Call.Ops[0].Table) {
		t.Error("the table's name is the one that was handed in")
	}
}
