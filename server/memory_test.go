package server_test

import (
	"runtime"
	"testing"

	"wicket/api"
	"wicket/message"
)

// spoil writes over bytes, and over the spare room behind them.
func spoil(b []byte) {
	b = b[:cap(b)]
	for i := range b {
		b[i] = '!'
	}
}

// spoilCall writes over all that a call holds.
func spoilCall(c api.Call) {
	ops := c.Ops[:cap(c.Ops)]
	for i := range ops {
		for _, b := range [][]byte{ops[i].Key, ops[i].Value, ops[i].Old, ops[i].To} {
			spoil(b)
		}
		ops[i] = api.Op{Kind: 7, Table: "!"}
	}
}

// spoilMessages writes over all that messages hold, and over the list of them.
func spoilMessages(l []api.Message) {
	l = l[:cap(l)]
	for i := range l {
		spoilCall(l[i].Ask.Call)
		spoil(l[i].Tell.Answer)
		l[i] = api.Message{Kind: 9}
	}
}

func spoilEntries(l []api.Entry) {
	l = l[:cap(l)]
	for i := range l {
		spoilCall(l[i].Command.Call)
		l[i] = api.Entry{Number: 99}
	}
}

const (
	writing = "0: call 1 1 0 get t k; put t k v; delete t k; swap t k - v; swap t k +v b; scan t a z 9"
	reading = "0: call 1 2 0 get t k; scan t a z 9; scan t % % 9"
)

// held is a message with spare room in all its lists, and what tells whether it was changed.
func held(text string) (api.Message, func(*testing.T)) {
	room := func(b []byte) []byte { return []byte(string(b) + "....")[:len(b)] }
	m, want := asks(text), asks(text)
	many := len(m.Ask.Call.Ops)
	ops := append(m.Ask.Call.Ops, api.Op{Kind: 9, Table: "spare"})
	for i := range ops[:many] {
		for _, field := range []*[]byte{&ops[i].Key, &ops[i].Value, &ops[i].Old, &ops[i].To} {
			*field = room(*field)
		}
	}
	m.Ask.Call.Ops = ops[:many]
	return m, func(t *testing.T) {
		t.Helper()
		if !message.Same(m, want) || ops[many].Kind != 9 || ops[many].Table != "spare" {
			t.Errorf("the message is %v now, behind it %v", m, ops[many])
		}
		for _, op := range ops[:many] {
			for _, b := range [][]byte{op.Key, op.Value, op.Old, op.To} {
				if string(b[len(b):len(b)+4]) != "...." {
					t.Errorf("spare room is %q now", b[len(b):len(b)+4])
				}
			}
		}
	}
}

// A message that is handed in is not changed, spare room included, whatever becomes of it.
func TestHandedInIsNotChanged(t *testing.T) {
	for _, capacity := range []int{1000, 20} {
		c := work(9, 5)
		c.Log = capacity
		g := newRig(t, c).enter(t, "0: open 1", "0: opened 1 1")
		put, unchanged := held(writing)
		read, same := held(reading)
		g.s.Take(read)
		g.s.Take(put)
		g.play(t, "take 0: open 2", "")
		g.s.Write()
		g.play(t, "sync", "ok")
		g.s.Take(read)
		for range 3 {
			l, _ := g.s.Do()
			spoilMessages(l)
		}
		spoilEntries(g.s.Entries())
		g.s.Stop(0)
		unchanged(t)
		same(t)
	}
}

// A message that is handed in is not kept: what waits, what is done, what is read, is as it was when it was taken.
func TestHandedInIsNotKept(t *testing.T) {
	g := newRig(t, work(9, 5)).enter(t, "0: open 1", "0: opened 1 1")
	put, _ := held(writing)
	read, _ := held(reading)
	other, _ := held("3: call 1 2 1 put t x y")
	g.s.Take(put)
	g.s.Take(other)
	spoilCall(put.Ask.Call)
	g.play(t, "write", "2", "sync", "ok")
	g.s.Take(read)
	spoilCall(read.Ask.Call)
	spoilCall(other.Ask.Call)
	g.play(t, "do", "0: answered 1 1 -; -; +; -; +; - k=b", "do", "3: answered 1 2 - | 0: answered 1 2 +b; - k=b x=y; - k=b x=y",
		"see", "3 3 3 waiting 0 reads 0 now 0: 1 open 1, 2 "+writing[3:]+", 3 call 1 2 1 put t x y")
	if !g.s.State().Same(after(g.c, "open 1", writing[3:], "call 1 2 1 put t x y")) {
		t.Error("another state")
	}
}

// What is told is the caller's: spoilt, it is told once more as it was.
func TestToldIsTheCallers(t *testing.T) {
	g := newRig(t, work(9, 5)).enter(t, "0: open 1", "0: opened 1 1").enter(t, writing, "0: answered 1 1 -; -; +; -; +; - k=b")
	for range 3 {
		g.play(t, "take "+writing, "", "write", "1", "sync", "ok")
		l, e := g.s.Do()
		if got := told(l); got != "0: answered 1 1 -; -; +; -; +; - k=b" || e != api.OK {
			t.Errorf("Do: %s, %v", got, e)
		}
		spoilMessages(l)
		l, e = g.s.Take(asks(reading))
		if got := told(l); got != "0: answered 1 2 +b; - k=b; - k=b" || e != api.OK {
			t.Errorf("Take: %s, %v", got, e)
		}
		spoilMessages(l)
		spoilEntries(g.s.Entries())
	}
	how := "1 open 1"
	for i := range 4 {
		how += ", " + string(rune('2'+i)) + " " + writing[3:]
	}
	g.play(t, "see", "5 5 5 waiting 0 reads 0 now 0: "+how, "stop 0", "ok", "see", "error 6: "+how, "up 0", "ok")
	if !g.s.State().Same(after(g.c, "open 1", writing[3:])) {
		t.Error("another state")
	}
}

// apart tells, bytes by bytes, whether any of them was there ahead of it.
func apart() func([]byte) bool {
	had := map[*byte]bool{}
	return func(b []byte) bool {
		b = b[:cap(b)]
		for i := range b {
			if had[&b[i]] {
				return false
			}
		}
		for i := range b {
			had[&b[i]] = true
		}
		return true
	}
}

// No two lists of an answer share memory, nor do two answers.
func TestAnswersAreApart(t *testing.T) {
	g := newRig(t, work(9, 5)).enter(t, "0: open 1", "0: opened 1 1")
	for range 3 {
		g.play(t, "take "+writing, "")
	}
	g.play(t, "write", "3", "sync", "ok")
	for range 3 {
		g.play(t, "take "+reading, "")
	}
	mine, many := apart(), 0
	for range 3 {
		l, _ := g.s.Do()
		for _, m := range l {
			many++
			if !mine(m.Tell.Answer) {
				t.Error("two answers share memory")
			}
		}
	}
	for range 3 {
		l, _ := g.s.Take(asks(reading))
		if len(l) != 1 || !mine(l[0].Tell.Answer) {
			t.Error("two answers share memory")
		}
	}
	ops := map[*api.Op]bool{}
	for range 2 {
		for _, n := range g.s.Entries() {
			for i := range n.Command.Call.Ops {
				op := &n.Command.Call.Ops[i]
				if ops[op] || !mine(op.Key) || !mine(op.Value) || !mine(op.Old) || !mine(op.To) {
					t.Error("two entries share memory")
				}
				ops[op] = true
			}
		}
	}
	if many != 6 || len(ops) != 2*3*6 {
		t.Errorf("%d are told, %d ops", many, len(ops))
	}
}

// A state that is told goes on apart.
func TestStatesGoOnApart(t *testing.T) {
	g := sessions(t, work(9, 5))
	m, o := g.s.State(), g.s.State()
	m.Do(parsed("close 1"))
	m.Do(parsed("call 2 1 0 put t a 9"))
	g.play(t, "take 0: call 1 3 0 get t a", "0: answered 1 3 +1").enter(t, "0: open 7", "0: opened 7 3")
	if o.Live(3) || !o.Live(1) || o.Same(m) || o.Same(g.s.State()) {
		t.Error("the states do not go on apart")
	}
}

// inUse is how many bytes are in use.
func inUse() int64 {
	runtime.GC()
	var m runtime.MemStats
	runtime.ReadMemStats(&m)
	return int64(m.HeapAlloc)
}

// A server takes no more memory for messages that are let go, that are told at once, or that may not be.
func TestLongServerStaysSmall(t *testing.T) {
	g := sessions(t, work(1, 5)).play(t, "take 0: close 7", "")
	wrong := harmed()
	long := func(most int) {
		for range most {
			for _, text := range []string{"0: call 1 1 0 get t a", "0: call 77 1 0 get t a", "0: call 1 2 0 put t b 1", "0: call 77 2 0 put t b 1", "0: open 9", "0: close 1"} {
				g.s.Take(asks(text))
			}
			for _, m := range wrong {
				g.s.Take(m)
			}
			g.s.Tick(4)
			g.s.Do()
			g.s.Sync()
			g.s.Keep(3)
		}
	}
	long(3)
	before := inUse()
	long(1000)
	if more := inUse() - before; more > 1<<17 {
		t.Errorf("%d bytes more", more)
	}
	g.play(t, "see", "3 3 3 waiting 1 reads 0 now 4: 1 open 1, 2 open 2, 3 call 1 1 0 put t a 1")
}
