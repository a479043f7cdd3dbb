package server_test

import (
	"bytes"
	"fmt"
	"math/rand"
	"testing"

	"wicket/api"
	"wicket/calls"
	"wicket/client"
	"wicket/command"
	"wicket/dedup"
	"wicket/disk"
	"wicket/message"
	"wicket/net"
	"wicket/server"
	"wicket/wal"
)

// system is clients, a server that stops now and then, and messages on the way between them, of which some are lost, doubled, late.
type system struct {
	r       *rand.Rand
	c       api.Config
	d       *disk.Disk
	s       *server.Server
	up      bool
	now     int64
	way     *net.Net[api.Message]
	clients []*client.Client

	lasted []api.Entry         // all entries that lasted at some time
	states []*dedup.Machine    // of so many of them
	first  map[string][]byte   // what the first entries of sessions and numbers tell
	calls  map[string]*invoked // by clients and ids

	results, reads, unknown, stops, keeps, expired int // what happened, so that a test can say that it did
}

// invoked is a call that was open: how many entries lasted then, and what came of it.
type invoked struct {
	call   api.Call
	key    string // that it puts, which no other call has; none, if it only reads
	lasted int
	what   api.Outcome
}

func newSystem(t *testing.T, r *rand.Rand, c api.Config, many int) *system {
	t.Helper()
	d := fresh(t, c.Log)
	y := &system{r: r, c: c, d: d, s: up(t, d, c, 0).s, up: true, way: net.New[api.Message](), states: []*dedup.Machine{after(c)}, first: map[string][]byte{}, calls: map[string]*invoked{}}
	for number := range many {
		k, e := client.New(number, c)
		if e != api.OK {
			t.Fatal(e)
		}
		y.clients = append(y.clients, k)
	}
	return y
}

func name(a ...any) string {
	return fmt.Sprintln(a...)
}

// invoke invokes a Put of a key that no other call has, alone or behind a Get of it, or a call that only reads.
func (y *system) invoke(number int) {
	v := &invoked{lasted: len(y.lasted)}
	key := fmt.Sprintf("k%d", len(y.calls))
	some := fmt.Sprintf("k%d", y.r.Intn(len(y.calls)+1))
	switch y.r.Intn(6) {
	case 0:
		v.call = call("get t " + some)
	case 1:
		v.call = call("scan t k1 k3 20; get t " + some)
	case 2:
		v.call, v.key = call("get t "+key+"; put t "+key+" v"), key
	default:
		v.call, v.key = call("put t "+key+" v"), key
	}
	id, what := y.clients[number].Invoke(v.call)
	if what == api.OutcomeOpen {
		y.calls[name(number, id)] = v
	}
}

// note takes down what lasts now: what lasted at some time is a beginning of it, always.
func (y *system) note(t *testing.T) {
	t.Helper()
	at, e := y.s.At()
	log, wrong := wal.Scan(y.d)
	if e != api.OK || wrong != api.OK || at.Lasting < int64(len(y.lasted)) {
		t.Fatalf("%v, %v; %d last, %d did", e, wrong, at.Lasting, len(y.lasted))
	}
	for _, n := range log.Entries {
		if n.Number <= int64(len(y.lasted)) {
			if !command.Same(n.Command, y.lasted[n.Number-1].Command) {
				t.Fatalf("the entry %d is %v, was %v", n.Number, n.Command, y.lasted[n.Number-1].Command)
			}
			continue
		}
		if n.Number > at.Lasting {
			break
		}
		y.add(t, n)
	}
	if int64(len(y.lasted)) != at.Lasting {
		t.Fatalf("%d last, the log has %d", at.Lasting, len(y.lasted))
	}
}

// add does the entry to what the words say of the state: of each session and number at most one changes the database, and each
// Answered of one tells what the first one told.
func (y *system) add(t *testing.T, n api.Entry) {
	t.Helper()
	was := y.states[len(y.states)-1]
	m := was.Copy()
	r, e := m.Do(n.Command)
	if e != api.OK {
		t.Fatal(e)
	}
	of := name(n.Command.Session, n.Command.Number)
	first, had := y.first[of]
	if r.Kind == api.ReplyAnswered {
		if had && !bytes.Equal(first, r.Answer) {
			t.Errorf("of %s % x is told, first it was % x", of, r.Answer, first)
		}
		y.first[of] = r.Answer
	}
	if !m.Database(was) && had {
		t.Errorf("%s changes the database once more", of)
	}
	if n.Command.Kind == api.CommandExpire {
		y.expired++
	}
	y.lasted, y.states = append(y.lasted, n), append(y.states, m)
}

// told lets messages be on the way. What is told is told behind its lasting: of what a stop leaves of the disk now, whatever is
// left, a server comes up that has it.
func (y *system) told(t *testing.T, l []api.Message) {
	t.Helper()
	y.way.Send(l...)
	if len(l) == 0 || y.r.Intn(8) > 0 {
		return
	}
	at, _ := y.s.At()
	o, e := server.New(y.d.Stop(0), y.c, y.now)
	if e != api.OK {
		t.Fatal(e)
	}
	if up, _ := o.At(); up.Done != int64(len(y.lasted)) || up.Done < at.Done || !o.State().Same(y.states[len(y.lasted)]) {
		t.Errorf("%d entries come up of %d that last", up.Done, len(y.lasted))
	}
	if !y.s.State().Same(y.states[at.Done]) {
		t.Errorf("%d entries are done: another state", at.Done)
	}
}

// arrive takes a message off the way; one that asks is lost, if the server is down.
func (y *system) arrive(t *testing.T, place int) {
	t.Helper()
	m, e := y.way.Take(place)
	if e != api.OK {
		t.Fatal(e)
	}
	if m.Kind == api.MessageAsk {
		l, e := y.s.Take(m)
		if (e == api.OK) != y.up {
			t.Errorf("Take: %v", e)
		}
		y.told(t, l)
		return
	}
	k := y.clients[m.Client]
	session, _ := k.Session()
	numbers := map[int64]int64{}
	for _, o := range k.Open() {
		numbers[o.Id] = o.Number
	}
	for _, r := range k.Hear(m) {
		y.end(t, m.Client, r, name(session, numbers[r.Id]))
	}
}

// end: each call returns once. Of one that puts, the result is what the first entry of its session and number told, which says
// that no row was there; of one that reads, what it says of the state of some entries, of as many as lasted when it was invoked
// at least, and of such as last.
func (y *system) end(t *testing.T, number int, r api.Return, of string) {
	t.Helper()
	v := y.calls[name(number, r.Id)]
	if v == nil || v.what != api.OutcomeOpen {
		t.Fatalf("the call %d of %d returns: %v", r.Id, number, r)
	}
	v.what = r.Outcome
	switch {
	case r.Outcome != api.OutcomeResult:
		y.unknown++
	case v.key == "":
		y.reads++
		for k := v.lasted; k <= len(y.lasted); k++ {
			if b, e := y.states[k].Read(v.call); e == api.OK && bytes.Equal(b, r.Answer) {
				return
			}
		}
		t.Errorf("%v reads % x, invoked behind %d entries, of %d", v.call, r.Answer, v.lasted, len(y.lasted))
	default:
		y.results++
		result, e := calls.ReadResult(r.Answer)
		if e != api.OK || result.Abort != api.AbortNone || result.Outs[0].Has || !bytes.Equal(r.Answer, y.first[of]) {
			t.Errorf("%v was answered % x, of %s % x was told first", v.call, r.Answer, of, y.first[of])
		}
	}
}

func (y *system) stop(t *testing.T) {
	t.Helper()
	left, e := y.s.Stop(y.r.Intn(200))
	if e != api.OK {
		t.Fatal(e)
	}
	y.d, y.up = left, false
	y.stops++
}

// comeUp: the state is that of all entries, which are those that lasted, and perhaps some more.
func (y *system) comeUp(t *testing.T) {
	t.Helper()
	s, e := server.New(y.d, y.c, y.now)
	if e != api.OK {
		t.Fatal(e)
	}
	y.s, y.up = s, true
	y.note(t)
	if !s.State().Same(y.states[len(y.lasted)]) {
		t.Error("another state comes up")
	}
}

func (y *system) do(t *testing.T) bool {
	t.Helper()
	l, e := y.s.Do()
	y.told(t, l)
	return e == api.OK
}

func (y *system) step(t *testing.T, k *client.Client) {
	t.Helper()
	l, e := k.Step(y.now)
	if e != api.OK {
		t.Fatal(e)
	}
	y.way.Send(l...)
}

// turn is one thing that happens, whatever.
func (y *system) turn(t *testing.T) {
	t.Helper()
	number := y.r.Intn(len(y.clients))
	switch n := y.r.Intn(300); {
	case n < 40:
		y.invoke(number)
	case n < 90:
		y.step(t, y.clients[number])
	case n < 110:
		y.now += int64(y.r.Intn(3))
		y.s.Tick(y.now)
	case n < 112:
		l, returned := y.clients[number].Leave()
		y.way.Send(l...)
		for _, r := range returned {
			y.end(t, number, r, "")
		}
	case n < 114 && y.up:
		y.stop(t)
	case n < 130 && !y.up:
		y.comeUp(t)
	case n < 160:
		y.s.Write()
	case n < 180:
		if y.s.Sync() == api.OK {
			y.note(t)
		}
	case n < 220:
		y.do(t)
	case n < 226:
		if y.s.Keep(y.r.Intn(4)) == api.OK {
			y.keeps++
		}
	case y.way.Len() == 0:
	case n < 232:
		y.way.Lose(y.r.Intn(y.way.Len()))
	case n < 238:
		y.way.Twin(y.r.Intn(y.way.Len()))
	default:
		y.arrive(t, y.r.Intn(y.way.Len()))
	}
}

// settle lets nothing be lost any more, and the server not stop, till all have returned: how many rounds that takes.
func (y *system) settle(t *testing.T) int {
	t.Helper()
	if !y.up {
		y.comeUp(t)
	}
	rounds := 0
	for open := true; open && rounds < 300; rounds++ {
		open = false
		y.now++
		for _, k := range y.clients {
			y.step(t, k)
		}
		for y.way.Len() > 0 {
			y.arrive(t, 0)
		}
		y.s.Write()
		y.s.Sync()
		y.note(t)
		for y.do(t) {
		}
		y.s.Keep(3)
		for y.way.Len() > 0 {
			y.arrive(t, 0)
		}
		for _, k := range y.clients {
			open = open || len(k.Open()) > 0
		}
	}
	return rounds
}

// P19.7, P0.2, P0.3, P0.4: whatever is lost, doubled, late, out of order, and wherever the server stops.
func TestClientsAndAServer(t *testing.T) {
	r := rand.New(rand.NewSource(197))
	var results, reads, unknown, stops, keeps, expired, most int
	for n := range 60 {
		c := api.Config{Quota: api.Quota{Rows: 4096, Bytes: 1 << 20}, Window: 1 + r.Intn(5), Queue: 1 + r.Intn(9), Wait: 1 + r.Intn(8), Timeout: 1 + r.Int63n(6), Idle: 10 + r.Int63n(60), Log: 100 + r.Intn(900)}
		y := newSystem(t, r, c, 1+n%4)
		for range 3000 {
			y.turn(t)
			if t.Failed() {
				t.FailNow()
			}
		}
		most = max(most, y.settle(t))
		rows := map[string]bool{}
		for row := range y.s.State().Rows() {
			rows[string(row.Key)] = true
		}
		for of, v := range y.calls {
			if v.what == api.OutcomeOpen || v.key != "" && v.what == api.OutcomeResult && !rows[v.key] {
				t.Errorf("%s: %d, there is its row: %t", of, v.what, rows[v.key])
			}
		}
		results, reads, unknown, stops, keeps, expired = results+y.results, reads+y.reads, unknown+y.unknown, stops+y.stops, keeps+y.keeps, expired+y.expired
	}
	if results < 1500 || reads < 1000 || unknown < 1000 || stops < 500 || keeps < 1000 || expired < 80 || most > 200 {
		t.Errorf("%d results, %d reads, %d unknown, %d stops, %d keeps, %d expired, %d rounds to the end", results, reads, unknown, stops, keeps, expired, most)
	}
}

// P19.7: a read waits for what lasted when it was taken, and is told of the state of what is done when that is: later entries that
// last by then, too, if they are done; none that only is written.
func TestReadsBehindWhatLasted(t *testing.T) {
	for lasting := 1; lasting < 5; lasting++ {
		for more := range 3 {
			g := newRig(t, work(20, 5)).enter(t, "0: open 1", "0: opened 1 1")
			for i := range lasting {
				g.play(t, fmt.Sprintf("take 1: call 1 %d 0 put t k %d", i+1, i+1), "")
			}
			g.play(t, "write", fmt.Sprint(lasting), "sync", "ok", "take 2: call 1 9 0 get t k", "")
			for i := range more {
				g.play(t, fmt.Sprintf("take 3: call 1 %d %d put t k x", lasting+i+1, lasting), "")
			}
			g.play(t, "write", fmt.Sprint(more), "sync", "ok")
			for i := range lasting - 1 {
				want := "-"
				if i > 0 {
					want = "+"
				}
				g.play(t, "do", fmt.Sprint("1: answered 1 ", i+1, " ", want))
			}
			want := "+"
			if lasting == 1 {
				want = "-"
			}
			g.play(t, "do", fmt.Sprintf("1: answered 1 %d %s | 2: answered 1 9 +%d", lasting, want, lasting))
		}
	}
}

// P19.7: behind any stop, whatever is left, all that lasted comes up, and a beginning of the others; what was told is among it.
func TestStopsAnywhere(t *testing.T) {
	texts := []string{"open 5", "call 1 1 0 put t a 1", "open 6", "call 2 1 0 delete t a; put u b 3", "call 1 2 0 put t c 1", "close 1"}
	for written := range len(texts) + 1 {
		for lasting := range written + 1 {
			for done := range lasting + 1 {
				for keep := -1; keep <= size(t, int64(lasting)+1, texts[lasting:written]...)+1; keep += 1 + keep/9 {
					g := newRig(t, work(9, 5))
					for i, text := range texts[:written] {
						if i == lasting {
							g.play(t, "sync", "ok")
						}
						g.play(t, "take 0: "+text, "", "write", "1")
					}
					if lasting == written {
						g.play(t, "sync", "ok")
					}
					for range done {
						g.s.Do()
					}
					whole := lasting
					for whole < written && size(t, int64(lasting)+1, texts[lasting:whole+1]...) <= keep {
						whole++
					}
					g.play(t, fmt.Sprint("stop ", keep), "ok", "up 0", "ok", "see", fmt.Sprintf("%[1]d %[1]d %[1]d waiting 0 reads 0 now 0: ", whole), "do", "error 5")
					if !g.s.State().Same(after(g.c, texts[:whole]...)) {
						t.Errorf("%d done, %d last, %d written, Stop(%d): another state", done, lasting, written, keep)
					}
				}
			}
		}
	}
}

// What clients send is taken, and what they are told is heard: layer 15 has both.
func TestExamplesOfTheWhole(t *testing.T) {
	c := work(9, 50)
	g := newRig(t, c)
	k, _ := client.New(0, c)
	k.Invoke(call("put t k v"))
	send := func(now int64) []api.Message {
		l, e := k.Step(now)
		if e != api.OK || len(l) != 1 {
			t.Fatal(l, e)
		}
		return l
	}
	take := func(m api.Message) {
		if l, e := g.s.Take(m); len(l) != 0 || e != api.OK {
			t.Fatal(l, e)
		}
	}
	take(send(0)[0])
	g.play(t, "write", "1", "sync", "ok")
	l, _ := g.s.Do()
	k.Hear(l[0])
	m := send(1)[0]
	if !message.Same(m, asks("0: call 1 1 0 put t k v")) {
		t.Fatal(m)
	}
	// Taken, written and stopped ahead of the sync: it was not done, and is sent again 5 ticks later.
	take(m)
	g.play(t, "write", "1", "stop 0", "ok", "up 1", "ok", "see", "1 1 1 waiting 0 reads 0 now 1: ")
	again := send(6)[0]
	// Doubled; stopped behind the sync, ahead of the do: coming up it is done, and nobody is told.
	take(again)
	take(again)
	g.play(t, "write", "2", "sync", "ok", "stop 0", "ok", "up 6", "ok", "see", "3 3 3 waiting 0 reads 0 now 6: ", "do", "error 5")
	take(send(11)[0])
	g.play(t, "write", "1", "sync", "ok")
	l, _ = g.s.Do()
	if got := told(l); got != "0: answered 1 1 -" {
		t.Errorf("told: %s", got)
	}
	if r := k.Hear(l[0]); len(r) != 1 || says(r[0].Answer) != "-" {
		t.Errorf("returned: %v", r)
	}
	// Another client's Get waits while a put lasts and is not done, and sees it.
	g.play(t, "take 0: call 1 2 1 put t k w", "", "write", "1", "sync", "ok", "take 1: call 1 9 1 get t k", "", "do", "0: answered 1 2 + | 1: answered 1 9 +w")
}
