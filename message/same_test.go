package message_test

import (
	"math"
	"math/rand"
	"testing"

	"wicket/api"
	"wicket/message"
)

// wantSame asks both ways round.
func wantSame(t *testing.T, a, b api.Message, want bool) {
	t.Helper()
	if message.Same(a, b) != want || message.Same(b, a) != want {
		t.Errorf("Same(%s, %s): %v, %v", shortly(a), shortly(b), message.Same(a, b), message.Same(b, a))
	}
}

// whole is a message with all fields, which may not be.
func whole() api.Message {
	return api.Message{
		Kind: api.MessageAsk, Client: 4,
		Ask:  api.Command{Kind: api.CommandCall, Token: 1, Session: 2, Number: 3, Mark: 4, Call: parsed("get t k; swap t k +o v")},
		Tell: api.Reply{Kind: api.ReplyAnswered, Token: 1, Session: 2, Number: 3, Answer: []byte("ab")},
	}
}

// others are messages with one field other than m's each.
func others(m func() api.Message) []api.Message {
	var l []api.Message
	for name := range fields(new(api.Message)) {
		for _, n := range []int64{7, -1, 1 << 32, math.MaxInt64, math.MinInt64} {
			no := m()
			*fields(&no)[name] += n
			l = append(l, no)
		}
	}
	for _, set := range []func(*api.Message){
		func(m *api.Message) { m.Kind++ }, func(m *api.Message) { m.Kind = -9 }, func(m *api.Message) { m.Kind += 1 << 32 },
		func(m *api.Message) { m.Client++ }, func(m *api.Message) { m.Client = -9 }, func(m *api.Message) { m.Client += 1 << 32 }, func(m *api.Message) { m.Client += 256 },
		func(m *api.Message) { m.Ask.Kind++ }, func(m *api.Message) { m.Ask.Kind = -9 }, func(m *api.Message) { m.Ask.Kind += 1 << 32 },
		func(m *api.Message) { m.Tell.Kind++ }, func(m *api.Message) { m.Tell.Kind = -9 }, func(m *api.Message) { m.Tell.Kind += 1 << 32 },
		func(m *api.Message) { m.Ask.Call = parsed("get t k") }, func(m *api.Message) { m.Ask.Call = parsed("get t k; swap t k +o w") }, func(m *api.Message) { m.Ask.Call = parsed("get t l; swap t k +o v") },
		func(m *api.Message) { m.Ask.Call = api.Call{Ops: []api.Op{{}}} }, func(m *api.Message) { m.Tell.Answer = []byte("a") }, func(m *api.Message) { m.Tell.Answer = []byte("ac") },
		func(m *api.Message) { m.Tell.Answer = []byte("abc") }, func(m *api.Message) { m.Tell.Answer = []byte{0} },
	} {
		no := m()
		set(&no)
		l = append(l, no)
	}
	return l
}

// P15.3: Same goes by all fields, of messages that may not be, too.
func TestSame(t *testing.T) {
	none := func() api.Message { return api.Message{} }
	wantSame(t, whole(), whole(), true)
	wantSame(t, none(), none(), true)
	wantSame(t, none(), whole(), false)
	for _, make := range []func() api.Message{whole, none} {
		for _, m := range others(make) {
			wantSame(t, m, make(), false)
			wantSame(t, m, m, true)
		}
	}
	for i, a := range eachKind() {
		for j, b := range eachKind() {
			wantSame(t, a, b, i == j)
		}
	}
	without := whole()
	without.Ask.Call = api.Call{}
	wantSame(t, without, whole(), false)
	without = whole()
	without.Tell.Answer = nil
	wantSame(t, without, whole(), false)
	// What stands in another field is not the same.
	for a := range fields(new(api.Message)) {
		for b := range fields(new(api.Message)) {
			var m, n api.Message
			*fields(&m)[a], *fields(&n)[b] = 1, 1
			wantSame(t, m, n, a == b)
		}
	}
}

// P15.3: lists without elements and no lists are the same, within calls too.
func TestSameOfEmptyLists(t *testing.T) {
	none := []byte{}
	a, b := asks(1, opening(5)), asks(1, opening(5))
	b.Ask.Call.Ops, b.Tell.Answer = []api.Op{}, none
	wantSame(t, a, b, true)
	wantTaken(t, b)
	a = asks(1, calling(1, 2, 0, parsed("get t k")))
	b = asks(1, calling(1, 2, 0, api.Call{Ops: []api.Op{{Kind: api.Get, Table: "t", Key: []byte("k"), Value: none, Old: none, To: none}}}))
	wantSame(t, a, b, true)
	wantTaken(t, b)
	a, b = tells(1, full(5)), tells(1, full(5))
	b.Tell.Answer, b.Ask.Call.Ops = make([]byte, 0, 9), make([]api.Op, 0, 9)
	wantSame(t, a, b, true)
	wantTaken(t, b)
}

// P15.3: Same tells what all fields tell, of any messages.
func TestSameOfAny(t *testing.T) {
	r := rand.New(rand.NewSource(153))
	sames := 0
	for range 300 {
		var l []api.Message
		for i := range 20 {
			m := someMessage(r)
			for n := i % 3; n > 0; n-- {
				harm(r, &m)
			}
			if i%5 == 4 {
				m = l[r.Intn(len(l))]
			}
			l = append(l, m)
		}
		for _, a := range l {
			for _, b := range l {
				wantSame(t, a, b, same(a, b))
				if same(a, b) {
					sames++
				}
			}
		}
	}
	if sames < 300*20+1000 || sames > 300*20*20/2 {
		t.Errorf("%d are the same", sames)
	}
}
