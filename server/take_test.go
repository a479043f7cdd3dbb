package server_test

import (
	"fmt"
	"math"
	"testing"

	"wicket/api"
	"wicket/calls"
	"wicket/message"
)

// wantTake: the message is taken, and that is told at once; nothing of the disk changes by it.
func wantTake(t *testing.T, g *rig, m api.Message, want string) {
	t.Helper()
	steps, log := g.d.Steps(), string(g.d.Log())
	l, e := g.s.Take(m)
	if got := told(l); got != want || e != api.OK || len(l) > 1 {
		t.Errorf("Take of %v: %q, %v; want %q", m, got, e, want)
	}
	if g.d.Steps() != steps || string(g.d.Log()) != log {
		t.Errorf("Take of %v: the disk has done %d steps, its log is % x", m, g.d.Steps()-steps, g.d.Log())
	}
}

// sessions is a server with the sessions 1 and 2, of the tokens 1 and 2, and a row t a 1; the call 1 of session 1 put it.
func sessions(t testing.TB, c api.Config) *rig {
	t.Helper()
	return newRig(t, c).enter(t, "0: open 1", "0: opened 1 1").enter(t, "1: open 2", "1: opened 2 2").enter(t, "0: call 1 1 0 put t a 1", "0: answered 1 1 -")
}

// P19.2: a command waits, behind the others, and nothing is told; each client's, and each kind's.
func TestTakeCommands(t *testing.T) {
	g := newRig(t, work(9, 5))
	for i, text := range []string{"0: open 5", "7: open 5", "3: call 1 1 0 put t a 1", "3: call 1 2 0 get t a; delete t a", "0: close 1", "5: call 9 1 0 swap t a - 2", "1: close 9"} {
		g.play(t, "take "+text, "", "see", fmt.Sprintf("0 0 0 waiting %d reads 0 now 0: ", i+1))
	}
	g.play(t, "write", "7", "sync", "ok", "do", "0: opened 5 1", "do", "7: opened 5 1", "do", "3: answered 1 1 -", "do", "3: answered 1 2 +1; +", "do", "0: closed 1", "do", "5: gone 9 1", "do", "1: gone 9 0", "do", "error 5",
		"see", "7 7 7 waiting 0 reads 0 now 0: 1 open 5, 2 open 5, 3 call 1 1 0 put t a 1, 4 call 1 2 0 get t a; delete t a, 5 close 1, 6 call 9 1 0 swap t a - 2, 7 close 9")
}

// P19.2: as many commands wait as the queue has room for; one more is let go, of whatever kind; behind a Write there is room.
func TestTakeUpToTheQueue(t *testing.T) {
	for _, queue := range []int{1, 2, 3, 63, api.MaxQueue} {
		c := work(queue, 5)
		c.Log = api.MaxLog
		g := newRig(t, c)
		for i := range queue {
			g.play(t, fmt.Sprint("take 2: open ", 1+i), "")
		}
		full := fmt.Sprintf("0 0 0 waiting %d reads 0 now 0: ", queue)
		for _, text := range []string{"3: open 7777", "3: close 1", "3: call 1 1 0 put t a 1"} {
			g.play(t, "take "+text, "", "see", full)
		}
		g.play(t, "write", fmt.Sprint(queue), "take 4: open 8888", "", "write", "1", "sync", "ok")
		for i := range queue {
			want := fmt.Sprint("2: opened ", 1+i, " ", 1+i)
			if i >= api.MaxSessions {
				want = fmt.Sprint("2: full ", 1+i)
			}
			g.play(t, "do", want)
		}
		want := fmt.Sprint("4: opened 8888 ", queue+1)
		if queue >= api.MaxSessions {
			want = "4: full 8888"
		}
		g.play(t, "do", want, "do", "error 5")
	}
}

// P19.2: the same message, taken twice, waits twice.
func TestTakeTwice(t *testing.T) {
	sessions(t, work(2, 5)).play(t, "take 0: call 1 2 0 put t b 1", "", "take 0: call 1 2 0 put t b 1", "", "write", "2", "sync", "ok", "do", "0: answered 1 2 -", "do", "0: answered 1 2 -")
}

// P19.2: a call that only reads is told at once what it says of the state, if all that lasts is done; nothing is written, whatever
// waits, or is written.
func TestTakeReads(t *testing.T) {
	g := sessions(t, work(9, 5)).play(t, "take 0: call 1 2 0 put t a 2", "", "take 0: close 1", "", "write", "2", "take 0: close 2", "")
	still := g.see()
	for range 2 {
		for text, want := range map[string]string{
			"5: call 1 1 0 get t a": "5: answered 1 1 +1", "0: call 1 2 1 get t a": "0: answered 1 2 +1", "7: call 2 64 63 get t b; scan t % % 9": "7: answered 2 64 -; - a=1",
			"0: call 1 4611686018427387905 4 scan u % % 1": "0: answered 1 4611686018427387905 -", "0: call 3 1 0 get t a": "0: gone 3 1", "6: call 4611686018427387905 9 8 scan t % % 9": "6: gone 4611686018427387905 9",
		} {
			wantTake(t, g, asks(text), want)
		}
	}
	if got := g.see(); got != still {
		t.Errorf("it stands at %q, was %q", got, still)
	}
	g.play(t, "sync", "ok", "take 0: call 1 3 0 get t a", "", "take 0: call 2 3 0 get t a", "", "do", "0: answered 1 2 +", "do", "0: closed 1 | 0: gone 1 3 | 0: answered 2 3 +2")
}

// P19.2: a read changes neither mark nor answers: its number may be any, above the window and at most the mark, too.
func TestTakeReadsOfAnyNumber(t *testing.T) {
	g := sessions(t, work(9, 5)).enter(t, "0: call 1 2 1 put t b 1", "0: answered 1 2 -")
	was := g.s.State()
	for _, number := range []int64{1, 2, 3, 5, 6, 7, 100, most} {
		for _, mark := range []int64{0, number / 2, number - 1} {
			wantTake(t, g, asks(fmt.Sprint("0: call 1 ", number, " ", mark, " get t a")), fmt.Sprint("0: answered 1 ", number, " +1"))
		}
	}
	if !g.s.State().Same(was) {
		t.Error("the state is another one")
	}
	g.enter(t, "0: call 1 2 1 put t b 1", "0: answered 1 2 -").enter(t, "0: call 1 1 0 put t b 1", "0: stale 1 1")
}

// P19.2: a read waits as long as something lasts that is not done; one of a session that does not live does not wait, even if the
// session's opening lasts.
func TestTakeReadsThatWait(t *testing.T) {
	g := sessions(t, work(9, 5)).play(t, "take 3: open 7", "", "write", "1", "sync", "ok")
	wantTake(t, g, asks("0: call 1 2 1 get t a"), "")
	wantTake(t, g, asks("0: call 3 1 0 get t a"), "0: gone 3 1")
	g.play(t, "see", "3 4 4 waiting 0 reads 1 now 0: 1 open 1, 2 open 2, 3 call 1 1 0 put t a 1", "do", "3: opened 7 3 | 0: answered 1 2 +1", "take 0: call 3 1 0 get t a", "0: answered 3 1 +1")
}

// P19.2: as many reads wait as the queue has room for, apart from the commands; one more is let go.
func TestTakeReadsUpToTheQueue(t *testing.T) {
	for _, queue := range []int{1, 2, 3, 63, api.MaxQueue} {
		c := work(queue, 5)
		c.Log = api.MaxLog
		g := sessions(t, c).play(t, "take 0: close 2", "", "write", "1", "sync", "ok")
		want := "0: closed 2"
		for i := range queue {
			g.play(t, fmt.Sprint("take 4: call 1 ", 1+i, " 0 get t a"), "")
			want += fmt.Sprint(" | 4: answered 1 ", 1+i, " +1")
		}
		for i := range queue {
			g.play(t, fmt.Sprint("take 5: open ", 10+i), "", "take 6: call 1 7777 0 get t a", "", "take 6: call 9 7 0 get t a", "6: gone 9 7")
		}
		how := "1 open 1, 2 open 2, 3 call 1 1 0 put t a 1"
		g.play(t, "see", fmt.Sprintf("3 4 4 waiting %d reads %d now 0: %s", queue, queue, how), "do", want, "see", fmt.Sprintf("4 4 4 waiting %d reads 0 now 0: %s, 4 close 2", queue, how))
		g.play(t, "write", fmt.Sprint(queue), "sync", "ok", "take 4: call 1 1 0 get t a", "")
	}
}

// P19.2: the greatest call that may be is taken, and the greatest answer of a read told.
func TestTakeGreatThings(t *testing.T) {
	c := work(9, 5)
	c.Quota, c.Log, c.Window = api.Quota{Rows: 4096, Bytes: 1 << 20}, api.MaxLog, 64
	g := newRig(t, c).enter(t, "0: open 1", "0: opened 1 1")
	value := make([]byte, api.MaxValue)
	for i := range 64 {
		key := make([]byte, api.MaxKey)
		key[0] = byte(i)
		m, _ := message.Ask(0, api.Command{Kind: api.CommandCall, Session: 1, Number: int64(i) + 1, Call: api.Call{Ops: []api.Op{{Kind: api.Put, Table: "t", Key: key, Value: value}}}})
		g.s.Take(m)
		g.play(t, "write", "1", "sync", "ok", "do", fmt.Sprintf("0: answered 1 %d -", i+1))
	}
	var ops []api.Op
	for range api.MaxOps {
		ops = append(ops, api.Op{Kind: api.Scan, Table: "t", Most: api.MaxScan})
	}
	m, e := message.Ask(0, api.Command{Kind: api.CommandCall, Session: 1, Number: 65, Call: api.Call{Ops: ops}})
	if e != api.OK {
		t.Fatal(e)
	}
	l, e := g.s.Take(m)
	if e != api.OK || len(l) != 1 || l[0].Tell.Kind != api.ReplyAnswered {
		t.Fatal(len(l), e)
	}
	r, e := calls.ReadResult(l[0].Tell.Answer)
	if e != api.OK || len(r.Outs) != 16 || len(r.Outs[15].Rows) != 64 || len(r.Outs[15].Rows[63].Value) != 256 {
		t.Errorf("% .100x, %v", l[0].Tell.Answer, e)
	}
}

// harmed are messages that, but for one thing, would be taken: a Call that only reads, one that does not, an Open, a Close.
func harmed() []api.Message {
	var l []api.Message
	for _, text := range []string{"0: call 1 1 0 get t a", "0: call 1 2 1 put t a 2", "0: open 9", "0: close 1"} {
		for _, change := range []func(m *api.Message){
			func(m *api.Message) { m.Kind = 0 }, func(m *api.Message) { m.Kind = api.MessageTell }, func(m *api.Message) { m.Kind = 3 }, func(m *api.Message) { m.Kind = -1 },
			func(m *api.Message) { m.Client = -1 }, func(m *api.Message) { m.Client = api.MaxClients }, func(m *api.Message) { m.Client = 256 }, func(m *api.Message) { m.Client = math.MinInt },
			func(m *api.Message) { m.Tell.Kind = api.ReplyClosed }, func(m *api.Message) { m.Tell.Session = 1 }, func(m *api.Message) { m.Tell.Answer = []byte{0} },
			func(m *api.Message) { m.Tell = api.Reply{Kind: api.ReplyClosed, Session: 1} },
			func(m *api.Message) { m.Ask.Kind = 0 }, func(m *api.Message) { m.Ask.Kind = 5 }, func(m *api.Message) { m.Ask.Kind = -m.Ask.Kind }, func(m *api.Message) { m.Ask.Kind += 256 },
			func(m *api.Message) { m.Ask.Token-- }, func(m *api.Message) { m.Ask.Token = -9 }, func(m *api.Message) { m.Ask.Mark = -1 }, func(m *api.Message) { m.Ask.Mark = most },
			func(m *api.Message) { m.Ask.Session = -1 }, func(m *api.Message) { m.Ask.Number = -1 }, func(m *api.Message) { m.Ask.Call.Ops = append(m.Ask.Call.Ops, api.Op{}) },
			func(m *api.Message) { m.Ask.Token, m.Ask.Session = 1, 1 },
		} {
			m := asks(text)
			change(&m)
			if text == "0: open 9" && m.Ask.Token == 8 {
				m.Ask.Token = 0
			}
			l = append(l, m)
		}
	}
	long := api.Call{}
	for range api.MaxOps {
		long.Ops = append(long.Ops, api.Op{Kind: api.Put, Table: "t", Key: []byte("k"), Value: make([]byte, api.MaxValue)})
	}
	for _, c := range []api.Call{{}, long, {Ops: make([]api.Op, 17)}, {Ops: []api.Op{{Kind: api.Get, Table: "T", Key: []byte("k")}}}, {Ops: []api.Op{{Kind: api.Scan, Table: "t", Most: 65}}}} {
		l = append(l, api.Message{Kind: api.MessageAsk, Ask: api.Command{Kind: api.CommandCall, Session: 1, Number: 1, Call: c}})
	}
	for _, r := range []api.Reply{{Kind: api.ReplyOpened, Token: 1, Session: 1}, {Kind: api.ReplyGone, Session: 1}, {Kind: api.ReplyClosed, Session: 1}} {
		l = append(l, api.Message{Kind: api.MessageTell, Tell: r})
	}
	return append(l, api.Message{}, api.Message{Kind: api.MessageAsk, Ask: api.Command{Kind: api.CommandExpire, Session: 1}})
}

// P19.2: of a message that does not ask, or may not be, nothing is told, nothing waits, and no session is heard.
func TestTakeWrongMessages(t *testing.T) {
	g := sessions(t, work(9, 5)).play(t, "tick 4", "0")
	still := g.see()
	for _, m := range harmed() {
		if message.Check(m) == api.OK && m.Kind == api.MessageAsk {
			t.Fatalf("%v may be", m)
		}
		wantTake(t, g, m, "")
	}
	if got := g.see(); got != still {
		t.Errorf("it stands at %q, was %q", got, still)
	}
	g.play(t, "take 0: call 2 1 0 get t a", "0: answered 2 1 +1", "tick 5", "1", "write", "1", "sync", "ok", "do", "", "see", "4 4 4 waiting 0 reads 0 now 5: 1 open 1, 2 open 2, 3 call 1 1 0 put t a 1, 4 expire 1")
}
