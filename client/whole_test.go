package client_test

import (
	"fmt"
	"math/rand"
	"testing"

	"wicket/api"
	"wicket/calls"
	"wicket/client"
	"wicket/dedup"
	"wicket/message"
	"wicket/net"
)

// system is clients and a machine that does at once what arrives, with messages on the way between them.
type system struct {
	r       *rand.Rand
	way     *net.Net[api.Message]
	machine *dedup.Machine
	clients []*client.Client
	now     int64
	sent    map[string]int64  // the ids by clients and the keys that they put
	done    map[string]string // the first answers by sessions and numbers
	ended   map[string]api.Outcome
}

func newSystem(t *testing.T, r *rand.Rand, many int, c api.Config) *system {
	t.Helper()
	c.Quota = api.Quota{Rows: 4096, Bytes: 1 << 20}
	m, e := dedup.New(c.Quota, c.Window)
	if e != api.OK {
		t.Fatal(e)
	}
	y := &system{r: r, way: net.New[api.Message](), machine: m, sent: map[string]int64{}, done: map[string]string{}, ended: map[string]api.Outcome{}}
	for number := range many {
		y.clients = append(y.clients, made(t, number, c))
	}
	return y
}

func key(number int, id int64) string {
	return fmt.Sprintf("%dx%d", number, id)
}

// put invokes a Put of a key that no other call has: were it done twice, the second time would tell that there is such a row.
func (y *system) put(number int, id int64) {
	name := key(number, id)
	got, what := y.clients[number].Invoke(parsed("put t " + name + " v"))
	if what == api.OutcomeOpen {
		y.sent[name] = got
	}
}

// arrive takes a message off the way, and does it or lets it be heard.
func (y *system) arrive(t *testing.T, place int) {
	t.Helper()
	m, e := y.way.Take(place)
	if e != api.OK {
		t.Fatal(e)
	}
	if m.Kind == api.MessageTell {
		y.end(t, m.Client, y.clients[m.Client].Hear(m))
		return
	}
	told, e := y.machine.Do(m.Ask)
	if e != api.OK {
		t.Fatalf("%v is sent: %v", m, e)
	}
	if told.Kind == api.ReplyAhead {
		t.Errorf("%v is ahead of the window", m)
	}
	if told.Kind == api.ReplyAnswered {
		name := fmt.Sprint(told.Session, " ", told.Number)
		if first, had := y.done[name]; had && first != string(told.Answer) {
			t.Errorf("the answers for %s are % x and % x", name, first, told.Answer)
		}
		y.done[name] = string(told.Answer)
	}
	back, e := message.Tell(m.Client, told)
	if e != api.OK {
		t.Fatal(e)
	}
	y.way.Send(back)
}

// end: each call returns once, and a result says that it was done for the first time.
func (y *system) end(t *testing.T, number int, l []api.Return) {
	t.Helper()
	for _, r := range l {
		name := key(number, r.Id)
		if _, had := y.ended[name]; had || y.sent[name] != r.Id {
			t.Errorf("%s returns: %v", name, r)
		}
		y.ended[name] = r.Outcome
		if r.Outcome != api.OutcomeResult {
			continue
		}
		result, e := calls.ReadResult(r.Answer)
		if e != api.OK || result.Abort != api.AbortNone || len(result.Outs) != 1 || result.Outs[0].Has {
			t.Errorf("%s was done: %v, %v", name, result, e)
		}
	}
}

// turn is one thing that happens, whatever.
func (y *system) turn(t *testing.T, ids []int64) {
	t.Helper()
	number := y.r.Intn(len(y.clients))
	k := y.clients[number]
	n := y.r.Intn(200)
	switch {
	case n < 40:
		ids[number]++
		y.put(number, ids[number])
	case n < 90:
		y.now += int64(y.r.Intn(3))
		l, e := k.Step(y.now)
		if e != api.OK {
			t.Fatal(e)
		}
		y.way.Send(l...)
	case n == 198:
		l, returned := k.Leave()
		y.way.Send(l...)
		y.end(t, number, returned)
	case n == 199:
		y.machine.Do(api.Command{Kind: api.CommandExpire, Session: 1 + int64(y.r.Intn(20))})
	case y.way.Len() == 0:
	case n < 100:
		y.way.Lose(y.r.Intn(y.way.Len()))
	case n < 110:
		y.way.Twin(y.r.Intn(y.way.Len()))
	default:
		y.arrive(t, y.r.Intn(y.way.Len()))
	}
}

// settle lets nothing be lost any more till all have returned.
func (y *system) settle(t *testing.T) int {
	t.Helper()
	rounds := 0
	for open := true; open && rounds < 300; rounds++ {
		open = false
		y.now++
		for _, k := range y.clients {
			l, e := k.Step(y.now)
			if e != api.OK {
				t.Fatal(e)
			}
			y.way.Send(l...)
		}
		for y.way.Len() > 0 {
			y.arrive(t, 0)
		}
		for _, k := range y.clients {
			open = open || len(k.Open()) > 0
		}
	}
	return rounds
}

// P18.6, P0.2: whatever is lost, doubled, late and out of order, each call is done once at most, what a client is told is what
// was answered when it was done, nothing that it sends is above its window, and at last all return.
func TestClientsAndAMachine(t *testing.T) {
	r := rand.New(rand.NewSource(187))
	results, unknown, most := 0, 0, 0
	for n := range 40 {
		y := newSystem(t, r, 1+n%3, work(1+r.Intn(5), 1+r.Intn(8), 1+int64(r.Intn(6))))
		ids := make([]int64, 3)
		for range 1500 {
			y.turn(t, ids)
		}
		most = max(most, y.settle(t))
		rows := map[string]bool{}
		for row := range y.machine.Rows() {
			rows[string(row.Key)] = true
			if _, had := y.sent[string(row.Key)]; !had {
				t.Errorf("the row %s was never open", row.Key)
			}
		}
		for name := range y.sent {
			what, ended := y.ended[name]
			if !ended || what == api.OutcomeResult && !rows[name] {
				t.Errorf("%s: it ended %t, %s, there is its row %t", name, ended, outcome(what), rows[name])
			}
			if what == api.OutcomeResult {
				results++
			} else {
				unknown++
			}
		}
	}
	if results < 3000 || unknown < 100 || most > 100 {
		t.Errorf("%d results, %d unknown, %d rounds to the end", results, unknown, most)
	}
}
