package message_test

import (
	"fmt"
	"math"
	"strings"
	"testing"

	"wicket/api"
	"wicket/calls"
	"wicket/message"
)

func opening(token int64) api.Command {
	return api.Command{Kind: api.CommandOpen, Token: token}
}

func calling(session, number, mark int64, c api.Call) api.Command {
	return api.Command{Kind: api.CommandCall, Session: session, Number: number, Mark: mark, Call: c}
}

func closing(session int64) api.Command {
	return api.Command{Kind: api.CommandClose, Session: session}
}

func expire(session int64) api.Command {
	return api.Command{Kind: api.CommandExpire, Session: session}
}

func opened(token, session int64) api.Reply {
	return api.Reply{Kind: api.ReplyOpened, Token: token, Session: session}
}

func full(token int64) api.Reply {
	return api.Reply{Kind: api.ReplyFull, Token: token}
}

func answered(session, number int64, answer []byte) api.Reply {
	return api.Reply{Kind: api.ReplyAnswered, Session: session, Number: number, Answer: answer}
}

func gone(session, number int64) api.Reply {
	return api.Reply{Kind: api.ReplyGone, Session: session, Number: number}
}

func stale(session, number int64) api.Reply {
	return api.Reply{Kind: api.ReplyStale, Session: session, Number: number}
}

func ahead(session, number int64) api.Reply {
	return api.Reply{Kind: api.ReplyAhead, Session: session, Number: number}
}

func closed(session int64) api.Reply {
	return api.Reply{Kind: api.ReplyClosed, Session: session}
}

func asks(client int, c api.Command) api.Message {
	return api.Message{Kind: api.MessageAsk, Client: client, Ask: c}
}

func tells(client int, r api.Reply) api.Message {
	return api.Message{Kind: api.MessageTell, Client: client, Tell: r}
}

// parsed is the call whose text it is; of a text that is none it panics.
func parsed(text string) api.Call {
	c, e := calls.Parse(text)
	if e != api.OK {
		panic(text)
	}
	return c
}

var callTexts = []string{
	"get t k", "get t l", "scan t % % 5", "put t k v", "put t k %", "delete t k", "swap t k - v", "swap t k +a b", "get t k; get t k", "get t k; put u %00%20%3B %25",
	"scan t a b 1; get t k", "delete t k; get t k", "scan t % % 64; swap t k - %",
}

// sized is a call whose form has so many bytes, from 4081 to 4209.
func sized(many int) api.Call {
	var c api.Call
	for range 15 {
		c.Ops = append(c.Ops, put(256))
	}
	return api.Call{Ops: append(c.Ops, put(many-3953))}
}

func put(value int) api.Op {
	return api.Op{Kind: api.Put, Table: "t", Key: []byte("k"), Value: []byte(strings.Repeat("a", value))}
}

// wrongCalls may not be, or are too long.
func wrongCalls() []api.Call {
	key := []byte("k")
	many := api.Call{}
	for range 17 {
		many.Ops = append(many.Ops, api.Op{Kind: api.Get, Table: "t", Key: key})
	}
	wrong := []api.Call{{Ops: []api.Op{}}, many, sized(4097)}
	for _, op := range []api.Op{
		{}, {Kind: 6, Table: "t", Key: key}, {Kind: api.Get, Table: "t"}, {Kind: api.Get, Key: key}, {Kind: api.Get, Table: "T", Key: key},
		{Kind: api.Get, Table: "t", Key: key, Value: key}, {Kind: api.Scan, Table: "t"}, {Kind: api.Put, Table: "t", Key: key, Value: make([]byte, 257)},
		{Kind: api.Swap, Table: "t", Key: key, Old: key},
	} {
		wrong = append(wrong, api.Call{Ops: []api.Op{op}}, api.Call{Ops: []api.Op{put(1), op}})
	}
	return wrong
}

// results are bytes of results.
func results() []string {
	return []string{"\x00\x01\x00\x00\x00", "\x00\x01\x01\x01v\x00", "\x00\x01\x00\x00\x02\x01a\x01b\x02ab\x00", "\x00\x02\x01\x00\x00\x00\x00\x00", "\x01\x00", "\x01\x0f", "\x02\x03", "\x03\x01"}
}

// wrongResults are bytes of none.
func wrongResults() []string {
	return []string{
		"\x00", "\x00\x00", "\x00\x01", "\x00\x01\x00\x00", "\x00\x01\x00\x00\x00\x00", "\x00\x01\x02\x00\x00", "\x00\x81\x00\x00\x00\x00", "\x80\x00\x01\x00\x00\x00",
		"\x00\x01\x00\x00\x01\x00\x00", "\x00\x01\x00\x00\x02\x01b\x00\x01a\x00", "\x00\x01\x00\x00\x02\x01a\x00\x01a\x00", "\x00\x02\x00\x00\x00", "\x01", "\x01\x10", "\x01\x00\x00", "\x01\x80\x00", "\x04\x00", "\xff",
	}
}

// greatest is the longest result: 16 outs, each with a value and rows as many and as great as may be.
func greatest() []byte {
	var r api.Result
	for range 16 {
		o := api.Out{Has: true, Value: make([]byte, 256)}
		for row := range 64 {
			key := fmt.Sprintf("%064d", row)
			o.Rows = append(o.Rows, api.Row{Key: []byte(key), Value: make([]byte, 256)})
		}
		r.Outs = append(r.Outs, o)
	}
	b, e := calls.Result(r)
	if e != api.OK {
		panic(e)
	}
	return b
}

const (
	get   = "\x01\x01\x01t\x01k" // the form of get t k
	other = "\x01\x01"           // the form of a result: AbortOther at 1
)

// eachKind is a message of each kind that may be.
func eachKind() []api.Message {
	return []api.Message{
		asks(0, opening(5)), asks(1, calling(3, 4, 2, parsed("put t k v"))), asks(2, closing(3)),
		tells(3, opened(5, 6)), tells(4, full(5)), tells(5, answered(3, 4, []byte(other))), tells(6, gone(3, 4)), tells(7, gone(3, 0)),
		tells(0, stale(3, 4)), tells(1, ahead(3, 4)), tells(2, closed(3)),
	}
}

// wantRefused: the message may not be, say this package and the words.
func wantRefused(t *testing.T, m api.Message) {
	t.Helper()
	if e := message.Check(m); e != api.ErrArg {
		t.Errorf("Check(%s): %v", shortly(m), e)
	}
	wantMessage(t, m)
}

// wantTaken: the message may be, say this package and the words.
func wantTaken(t *testing.T, m api.Message) {
	t.Helper()
	if e := message.Check(m); e != api.OK {
		t.Errorf("Check(%s): %v", shortly(m), e)
	}
	wantMessage(t, m)
}

// The chapter's section 'Examples'.
func TestExamples(t *testing.T) {
	m, e := message.Ask(0, opening(5))
	if e != api.OK || m.Kind != api.MessageAsk || !same(m, asks(0, opening(5))) {
		t.Errorf("Ask: %v, %v", m, e)
	}
	for _, wrong := range []api.Message{asks(8, opening(5)), asks(0, expire(1)), asks(0, opening(0))} {
		if m, e := message.Ask(wrong.Client, wrong.Ask); e != api.ErrArg || !zero(m) {
			t.Errorf("Ask(%v): %v, %v", wrong, m, e)
		}
	}
	b, e := message.Bytes(m)
	if e != api.OK || string(b) != "\x01\x00\x01\x05" {
		t.Errorf("Bytes: % x, %v", b, e)
	}
	if m, e := message.Tell(1, full(9)); e != api.OK || m.Kind != api.MessageTell || !same(m, tells(1, full(9))) {
		t.Errorf("Tell: %v, %v", m, e)
	}
	if m, e := message.Tell(1, answered(1, 1, nil)); e != api.ErrArg || !zero(m) {
		t.Errorf("Tell of no result's bytes: %v, %v", m, e)
	}
	for _, wrong := range [][]byte{nil, {}, {3, 0, 1}, append(b, 0)} {
		if m, e := message.Read(wrong); e != api.ErrBytes || !zero(m) {
			t.Errorf("Read(% x): %v, %v", wrong, m, e)
		}
	}
}

// P15.1: a message asks or tells, and each of both has its kinds; those below and above may not be, whatever the fields.
func TestKinds(t *testing.T) {
	wrong := []int{0, -1, -2, 128, 255, 256, 257, 258, 259, 1<<32 + 1, 1<<32 + 2, math.MaxInt, math.MinInt}
	for _, m := range eachKind() {
		wantTaken(t, m)
		for _, kind := range append(wrong, 3, 4) {
			no := m
			no.Kind = api.MessageKind(kind)
			wantRefused(t, no)
		}
		for _, kind := range append(wrong, 4, 5, 8, 9) {
			no := m
			if m.Kind == api.MessageAsk {
				no.Ask.Kind = api.CommandKind(kind)
				wantRefused(t, no)
			} else if kind != 4 && kind != 5 {
				no.Tell.Kind = api.ReplyKind(kind)
				wantRefused(t, no)
			}
		}
	}
	for kind := api.MessageKind(-2); kind < 5; kind++ {
		wantRefused(t, api.Message{Kind: kind})
		for says := -2; says < 10; says++ {
			wantRefused(t, api.Message{Kind: kind, Ask: api.Command{Kind: api.CommandKind(says)}})
			wantRefused(t, api.Message{Kind: kind, Tell: api.Reply{Kind: api.ReplyKind(says)}})
		}
	}
	// An Expire is no client's to ask for.
	wantRefused(t, asks(0, expire(1)))
}

// P15.1: clients are from 0 to MaxClients less 1.
func TestClients(t *testing.T) {
	for _, m := range eachKind() {
		for m.Client = range 8 {
			wantTaken(t, m)
		}
		for _, m.Client = range []int{-1, -8, 8, 9, 127, 128, 255, 256, 257, 1 << 32, math.MaxInt, math.MinInt} {
			wantRefused(t, m)
		}
	}
}

// P15.1: each number that a kind has goes from its least on, and up to the greatest one there is.
func TestNumbersAtTheirBounds(t *testing.T) {
	c := parsed("get t k")
	for _, make := range []func(int64) api.Message{
		func(n int64) api.Message { return asks(1, opening(n)) }, func(n int64) api.Message { return asks(1, closing(n)) },
		func(n int64) api.Message { return asks(1, calling(n, 1, 0, c)) }, func(n int64) api.Message { return asks(1, calling(1, n, 0, c)) },
		func(n int64) api.Message { return tells(1, opened(n, 1)) }, func(n int64) api.Message { return tells(1, opened(1, n)) },
		func(n int64) api.Message { return tells(1, full(n)) }, func(n int64) api.Message { return tells(1, closed(n)) },
		func(n int64) api.Message { return tells(1, answered(n, 1, []byte(other))) }, func(n int64) api.Message { return tells(1, answered(1, n, []byte(other))) },
		func(n int64) api.Message { return tells(1, stale(n, 1)) }, func(n int64) api.Message { return tells(1, stale(1, n)) },
		func(n int64) api.Message { return tells(1, ahead(n, 1)) }, func(n int64) api.Message { return tells(1, ahead(1, n)) },
		func(n int64) api.Message { return tells(1, gone(n, 0)) }, func(n int64) api.Message { return tells(1, gone(n, 1)) },
		// Of a Gone the number may be 0.
		func(n int64) api.Message { return tells(1, gone(1, n-1)) },
	} {
		for _, n := range []int64{1, 2, 127, 128, 16383, 16384, 1 << 32, 1 << 62, 1<<62 + 1, math.MaxInt64 - 1, math.MaxInt64} {
			wantTaken(t, make(n))
		}
		for _, n := range []int64{0, -1, -2, -64, -65, -1 << 32, math.MinInt64 + 2, math.MinInt64 + 1} {
			wantRefused(t, make(n))
		}
	}
	wantRefused(t, tells(1, gone(1, math.MinInt64)))
}

// P15.1: a mark is 0 or more, and below the number.
func TestMarkIsBelowNumber(t *testing.T) {
	c := parsed("get t k")
	for _, number := range []int64{1, 2, 3, 65, 1 << 40, math.MaxInt64 - 1} {
		for _, mark := range []int64{0, number / 2, number - 1} {
			wantTaken(t, asks(2, calling(1, number, mark, c)))
		}
		for _, mark := range []int64{-1, -number, math.MinInt64, number, number + 1, math.MaxInt64} {
			wantRefused(t, asks(2, calling(1, number, mark, c)))
		}
	}
	wantTaken(t, asks(2, calling(1, math.MaxInt64, math.MaxInt64-1, c)))
	wantRefused(t, asks(2, calling(1, math.MaxInt64, math.MaxInt64, c)))
	for _, number := range []int64{0, -1, -5, math.MinInt64} {
		for _, mark := range []int64{0, -1, -6, number, 1, math.MinInt64} {
			wantRefused(t, asks(2, calling(1, number, mark, c)))
		}
	}
}

// fields are the numbers of a message, and what they are called.
func fields(m *api.Message) map[string]*int64 {
	return map[string]*int64{
		"ask token": &m.Ask.Token, "ask session": &m.Ask.Session, "ask number": &m.Ask.Number, "ask mark": &m.Ask.Mark,
		"tell token": &m.Tell.Token, "tell session": &m.Tell.Session, "tell number": &m.Tell.Number,
	}
}

// P15.1: a field that a kind does not name is zero, in what a message does not say too.
func TestFieldsThatAreNotNamed(t *testing.T) {
	ofKinds := []string{
		"ask token", "ask session, ask number, ask mark", "ask session", "tell token, tell session", "tell token", "tell session, tell number",
		"tell session, tell number", "tell session, tell number", "tell session, tell number", "tell session, tell number", "tell session",
	}
	for i, names := range ofKinds {
		for name := range fields(new(api.Message)) {
			for _, n := range []int64{1, 2, 3, 5, -1, math.MaxInt64, math.MinInt64} {
				m := eachKind()[i]
				*fields(&m)[name] = n
				if !strings.Contains(names, name) {
					wantRefused(t, m)
				} else if n < 0 {
					wantRefused(t, m)
				}
			}
		}
		for says := 1; says < 8; says++ {
			m := eachKind()[i]
			if m.Kind == api.MessageAsk {
				m.Tell.Kind = api.ReplyKind(says)
			} else {
				m.Ask.Kind = api.CommandKind(says)
			}
			wantRefused(t, m)
		}
	}
}

// P15.1: a call and an answer are there just where a kind names them; a list without things is as none.
func TestListsThatAreNotNamed(t *testing.T) {
	for _, m := range eachKind() {
		if m.Kind != api.MessageAsk || m.Ask.Kind != api.CommandCall {
			no := m
			for _, text := range callTexts {
				no.Ask.Call = parsed(text)
				wantRefused(t, no)
			}
			no.Ask.Call = api.Call{Ops: []api.Op{{}}}
			wantRefused(t, no)
			for _, ops := range [][]api.Op{{}, make([]api.Op, 0, 3)} {
				no.Ask.Call = api.Call{Ops: ops}
				wantTaken(t, no)
			}
		}
		if m.Kind != api.MessageTell || m.Tell.Kind != api.ReplyAnswered {
			no := m
			for _, answer := range append(results(), "\x00", "a") {
				no.Tell.Answer = []byte(answer)
				wantRefused(t, no)
			}
			for _, answer := range [][]byte{{}, make([]byte, 0, 3)} {
				no.Tell.Answer = answer
				wantTaken(t, no)
			}
		}
	}
}

// P15.1: a message that says both, or what the other kind says, may not be.
func TestBothAskedAndTold(t *testing.T) {
	for _, a := range eachKind() {
		for _, b := range eachKind() {
			if a.Kind == api.MessageAsk && b.Kind == api.MessageTell {
				for kind := range 4 {
					wantRefused(t, api.Message{Kind: api.MessageKind(kind), Ask: a.Ask, Tell: b.Tell})
				}
			}
		}
		a.Kind = 3 - a.Kind
		wantRefused(t, a)
	}
}

// P15.1: the call of a Call may be, and is not too long; else it is ErrArg, whichever of both is wrong.
func TestCallOfACall(t *testing.T) {
	for _, text := range callTexts {
		wantTaken(t, asks(1, calling(1, 1, 0, parsed(text))))
	}
	wantRefused(t, asks(1, calling(1, 1, 0, api.Call{})))
	for _, c := range wrongCalls() {
		wantRefused(t, asks(1, calling(1, 1, 0, c)))
	}
	if e := calls.Check(sized(4097)); e != api.ErrLong {
		t.Fatalf("a call of 4097 bytes: %v", e)
	}
	for _, many := range []int{4095, 4096} {
		wantTaken(t, asks(1, calling(1, 1, 0, sized(many))))
		wantTaken(t, asks(1, calling(math.MaxInt64, math.MaxInt64, math.MaxInt64-1, sized(many))))
	}
	for _, many := range []int{4097, 4098, 4209} {
		wantRefused(t, asks(1, calling(1, 1, 0, sized(many))))
	}
}

// P15.1: the answer of an Answered is the bytes of a result, just those, however long it is.
func TestAnswerOfAnAnswered(t *testing.T) {
	for _, answer := range append(results(), string(greatest())) {
		wantTaken(t, tells(1, answered(1, 1, []byte(answer))))
		wantRefused(t, tells(1, answered(1, 1, []byte(answer+"\x00"))))
		wantRefused(t, tells(1, answered(1, 1, []byte(answer[:len(answer)-1]))))
	}
	for _, answer := range append(wrongResults(), "") {
		wantRefused(t, tells(1, answered(1, 1, []byte(answer))))
	}
	wantRefused(t, tells(1, answered(1, 1, nil)))
	wantRefused(t, tells(1, answered(1, 1, make([]byte, 1<<20))))
}
