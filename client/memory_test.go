package client_test

import (
	"runtime"
	"testing"
	"unsafe"

	"wicket/api"
	"wicket/calls"
	"wicket/client"
)

// spoil writes over bytes, and over the spare room behind them.
func spoil(b []byte) {
	b = b[:cap(b)]
	for i := range b {
		b[i] = '!'
	}
}

// spoilCall writes over all that a call holds.
func spoilCall(c api.Call) {
	ops := c.Ops[:cap(c.Ops)]
	for i := range ops {
		for _, b := range [][]byte{ops[i].Key, ops[i].Value, ops[i].Old, ops[i].To} {
			spoil(b)
		}
		ops[i] = api.Op{Kind: 7, Table: "!"}
	}
}

// spoilMessages writes over all that messages hold, and over the list of them.
func spoilMessages(l []api.Message) {
	l = l[:cap(l)]
	for i := range l {
		spoilCall(l[i].Ask.Call)
		spoil(l[i].Tell.Answer)
		l[i] = api.Message{Kind: 9}
	}
}

func spoilReturns(l []api.Return) {
	l = l[:cap(l)]
	for i := range l {
		spoil(l[i].Answer)
		l[i] = api.Return{Id: 99}
	}
}

const allKinds = "get t k; put t k v; delete t k; swap t k +o v; scan t a z 5"

// room is bytes with spare room behind them.
func room(text string) []byte {
	return []byte(text + "....")[:len(text)]
}

// P18.1: a call that was handed in is not changed, spare room included, and not kept.
func TestInvokedCallsAreNotKept(t *testing.T) {
	for _, what := range []string{"open", "busy", "rejected"} {
		k := made(t, 0, work(2, 2, 5))
		do(k, "opened 1 9")
		key, value, old, from, to := room("k"), room("v"), room("o"), room("a"), room("z")
		ops := []api.Op{
			{Kind: api.Get, Table: "t", Key: key}, {Kind: api.Put, Table: "t", Key: key, Value: value}, {Kind: api.Delete, Table: "t", Key: key},
			{Kind: api.Swap, Table: "t", Key: key, Has: true, Old: old, Value: value}, {Kind: api.Scan, Table: "t", Key: from, To: to, Most: 5}, {Kind: 9, Table: "spare"},
		}
		c := api.Call{Ops: ops[:5]}
		want := parsed(allKinds)
		switch what {
		case "busy":
			do(k, "invoke get t k")
			do(k, "invoke get t k")
		case "rejected":
			ops[0].Kind, want.Ops[0].Kind = 9, 9
		}
		if _, got := k.Invoke(c); outcome(got) != what {
			t.Errorf("Invoke: %s, want %s", outcome(got), what)
		}
		if !calls.Same(c, want) || ops[5].Kind != 9 || ops[5].Table != "spare" {
			t.Errorf("%s: the call is %v now", what, ops)
		}
		for text, b := range map[string][]byte{"k": key, "v": value, "o": old, "a": from, "z": to} {
			if string(b[:5]) != text+"...." {
				t.Errorf("%s: what was handed in is %q now", what, b[:5])
			}
		}
		spoilCall(c)
		if what == "open" {
			play(t, k, "step 7", "0: call 9 1 0 "+allKinds, "step 12", "0: call 9 1 0 "+allKinds)
		}
	}
}

// P18.2, P18.5: messages that were told are the caller's: what is spoilt of them is sent again as it was, by a copy too.
func TestSentMessagesAreNew(t *testing.T) {
	k := made(t, 0, work(3, 9, 1))
	do(k, "opened 1 9")
	for range 3 {
		do(k, "invoke "+allKinds)
	}
	want := "0: call 9 1 0 " + allKinds + " | 0: call 9 2 0 " + allKinds + " | 0: call 9 3 0 " + allKinds
	for now := range int64(4) {
		c := k.Copy()
		for _, k := range []*client.Client{k, c} {
			l, e := k.Step(now)
			if got := asked(l); got != want || e != api.OK {
				t.Errorf("step %d: %q, %v", now, got, e)
			}
			wantApart(t, l)
			spoilMessages(l)
			spoilSent(k.Open())
		}
	}
	l, returned := k.Leave()
	if asked(l) != "0: close 9" || came(returned) != "1 unknown, 2 unknown, 3 unknown" {
		t.Errorf("Leave: %v, %v", l, returned)
	}
	spoilMessages(l)
	spoilReturns(returned)
	play(t, k, "see", "0: token 9 session 0 mark 0:", "invoke get t k", "4 open", "step 9", "0: open 9")
}

func spoilSent(l []api.Sent) {
	l = l[:cap(l)]
	for i := range l {
		l[i] = api.Sent{Id: 99, Number: 99, At: 99}
	}
}

// wantApart: no two lists of the messages share memory, spare room included.
func wantApart(t *testing.T, l []api.Message) {
	t.Helper()
	had := map[*byte]bool{}
	note := func(b []byte) {
		b = b[:cap(b)]
		for i := range b {
			if had[&b[i]] {
				t.Error("two lists share memory")
			}
			had[&b[i]] = true
		}
	}
	ops := map[*api.Op]bool{}
	for _, m := range l {
		for i := range m.Ask.Call.Ops {
			op := &m.Ask.Call.Ops[i]
			if ops[op] {
				t.Error("two calls share ops")
			}
			ops[op] = true
			for _, b := range [][]byte{op.Key, op.Value, op.Old, op.To} {
				note(b)
			}
		}
	}
	if len(ops) != 15 || len(had) < 15 {
		t.Errorf("%d ops with %d bytes", len(ops), len(had))
	}
}

// P18.3: a message that was heard is not changed and not kept, and the answer that is told is new.
func TestHeardMessagesAreNotKept(t *testing.T) {
	k := ready(t, 2, 9, 5, 2)
	want := string(answer(9, 1))
	b := append(answer(9, 1), "...."...)
	m := tells(0, reply("answered 9 1"))
	m.Tell.Answer = b[:len(want)]
	c := k.Copy()
	l, other := k.Hear(m), c.Hear(m)
	if string(b) != want+"...." || len(l) != 1 || string(l[0].Answer) != want {
		t.Errorf("Hear: %v; the message's answer is %q now", l, b)
	}
	if unsafe.SliceData(l[0].Answer) == unsafe.SliceData(b) || unsafe.SliceData(l[0].Answer) == unsafe.SliceData(other[0].Answer) {
		t.Error("the answer shares memory")
	}
	spoil(b)
	if string(l[0].Answer) != want || string(other[0].Answer) != want {
		t.Errorf("the answer is %q and %q now", l[0].Answer, other[0].Answer)
	}
	spoilReturns(l)
	if string(other[0].Answer) != want {
		t.Errorf("the copy's answer is %q now", other[0].Answer)
	}
	play(t, k, "see", "0: token 1 session 9 mark 1: 2#2@7")
}

// inUse is how many bytes are in use.
func inUse() int64 {
	runtime.GC()
	var m runtime.MemStats
	runtime.ReadMemStats(&m)
	return int64(m.HeapAlloc)
}

// A client takes no more memory the longer it goes on, and keeps no call that has returned or was answered at once.
func TestLongClientStaysSmall(t *testing.T) {
	k := made(t, 0, work(4, 1024, 5))
	big := sized(api.MaxCall)
	long := func(most int) {
		session := int64(0)
		for range most {
			session++
			k.Hear(tells(0, api.Reply{Kind: api.ReplyOpened, Token: k.Token(), Session: session}))
			for number := int64(1); number <= 8; number++ {
				k.Invoke(big)
				k.Invoke(sized(api.MaxCall + 1))
				k.Step(0)
				k.Hear(tells(0, api.Reply{Kind: api.ReplyAnswered, Session: session, Number: number, Answer: []byte{1, 0}}))
			}
			k.Invoke(big)
			k.Step(0)
			k.Leave()
		}
	}
	long(3)
	before := inUse()
	long(300)
	for range 1024 {
		k.Invoke(big)
	}
	if id, what := k.Invoke(big); what != api.OutcomeBusy {
		t.Fatal(id, outcome(what))
	}
	k.Hear(tells(0, api.Reply{Kind: api.ReplyOpened, Token: k.Token(), Session: 1}))
	for number := int64(1); number <= 1024; number++ {
		k.Step(0)
		k.Hear(tells(0, api.Reply{Kind: api.ReplyStale, Session: 1, Number: number}))
	}
	if more := inUse() - before; more > 1<<19 {
		t.Errorf("%d bytes more", more)
	}
	play(t, k, "see", see(k.Copy()))
	if len(k.Open()) != 0 {
		t.Errorf("%d are open", len(k.Open()))
	}
}
