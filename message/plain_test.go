package message_test

import (
	"encoding/binary"
	"fmt"
	"math"
	"math/rand"
	"testing"

	"wicket/api"
	"wicket/calls"
	"wicket/message"
)

// What the chapter's section 'Words' says, written down once more: which messages may be, and their bytes. What is read is
// read loosely, and is what was written, if writing it makes the same again. Calls and results are layer 6's.

func plainCommand(c api.Command) bool {
	noCall := len(c.Call.Ops) == 0
	switch c.Kind {
	case 1:
		return c.Token >= 1 && c.Session == 0 && c.Number == 0 && c.Mark == 0 && noCall
	case 2:
		return c.Token == 0 && c.Session >= 1 && c.Number >= 1 && c.Mark >= 0 && c.Mark < c.Number && calls.Check(c.Call) == api.OK
	case 3:
		return c.Token == 0 && c.Session >= 1 && c.Number == 0 && c.Mark == 0 && noCall
	}
	return false
}

func plainReply(r api.Reply) bool {
	if r.Kind == 3 {
		_, e := calls.ReadResult(r.Answer)
		return r.Token == 0 && r.Session >= 1 && r.Number >= 1 && e == api.OK
	}
	if len(r.Answer) > 0 {
		return false
	}
	switch r.Kind {
	case 1:
		return r.Token >= 1 && r.Session >= 1 && r.Number == 0
	case 2:
		return r.Token >= 1 && r.Session == 0 && r.Number == 0
	case 4:
		return r.Token == 0 && r.Session >= 1 && r.Number >= 0
	case 5, 6:
		return r.Token == 0 && r.Session >= 1 && r.Number >= 1
	case 7:
		return r.Token == 0 && r.Session >= 1 && r.Number == 0
	}
	return false
}

func plainMayBe(m api.Message) bool {
	switch {
	case m.Client < 0 || m.Client > 7:
		return false
	case m.Kind == 1:
		return plainCommand(m.Ask) && same(m, api.Message{Kind: 1, Client: m.Client, Ask: m.Ask})
	case m.Kind == 2:
		return plainReply(m.Tell) && same(m, api.Message{Kind: 2, Client: m.Client, Tell: m.Tell})
	}
	return false
}

func digits(l ...int64) string {
	var b []byte
	for _, n := range l {
		b = binary.AppendUvarint(b, uint64(n))
	}
	return string(b)
}

// plainForm are a message's bytes, if it may be.
func plainForm(m api.Message) string {
	c, r := m.Ask, m.Tell
	front := string([]byte{byte(m.Kind), byte(m.Client), byte(c.Kind) + byte(r.Kind)})
	if m.Kind == 1 {
		switch c.Kind {
		case 1:
			return front + digits(c.Token)
		case 2:
			call, _ := calls.Bytes(c.Call)
			return front + digits(c.Session, c.Number, c.Mark) + string(call)
		}
		return front + digits(c.Session)
	}
	switch r.Kind {
	case 1:
		return front + digits(r.Token, r.Session)
	case 2:
		return front + digits(r.Token)
	case 7:
		return front + digits(r.Session)
	}
	return front + digits(r.Session, r.Number) + string(r.Answer)
}

func plainRead(b string) (m api.Message, ok bool) {
	if len(b) < 3 {
		return m, false
	}
	left := []byte(b[3:])
	next := func() int64 {
		n, size := binary.Uvarint(left)
		left = left[max(size, 0):]
		return int64(n)
	}
	m.Kind, m.Client = api.MessageKind(b[0]), int(b[1])
	c, r := &m.Ask, &m.Tell
	switch b[0] {
	case 1:
		c.Kind = api.CommandKind(b[2])
		switch b[2] {
		case 1:
			c.Token = next()
		case 2:
			c.Session, c.Number, c.Mark = next(), next(), next()
			c.Call, _ = calls.Read(left)
		case 3:
			c.Session = next()
		}
	case 2:
		r.Kind = api.ReplyKind(b[2])
		switch b[2] {
		case 1:
			r.Token, r.Session = next(), next()
		case 2:
			r.Token = next()
		case 3:
			r.Session, r.Number = next(), next()
			r.Answer = left
		case 4, 5, 6:
			r.Session, r.Number = next(), next()
		case 7:
			r.Session = next()
		}
	}
	return m, plainMayBe(m) && plainForm(m) == b
}

// same goes by all fields; nil and empty lists are the same.
func same(a, b api.Message) bool {
	x, y, u, v := a.Ask, b.Ask, a.Tell, b.Tell
	if a.Kind != b.Kind || a.Client != b.Client || x.Kind != y.Kind || x.Token != y.Token || x.Session != y.Session || x.Number != y.Number || x.Mark != y.Mark ||
		u.Kind != v.Kind || u.Token != v.Token || u.Session != v.Session || u.Number != v.Number || string(u.Answer) != string(v.Answer) || len(x.Call.Ops) != len(y.Call.Ops) {
		return false
	}
	for i, p := range x.Call.Ops {
		q := y.Call.Ops[i]
		if p.Kind != q.Kind || p.Table != q.Table || string(p.Key) != string(q.Key) || string(p.Value) != string(q.Value) ||
			p.Has != q.Has || string(p.Old) != string(q.Old) || string(p.To) != string(q.To) || p.Most != q.Most {
			return false
		}
	}
	return true
}

// shortly is a message, or several, for a fault's text.
func shortly(what any) string {
	return fmt.Sprintf("%.300s", fmt.Sprintf("%+v", what))
}

// zero: is there nothing in the message, no list without things either?
func zero(m api.Message) bool {
	return same(m, api.Message{}) && m.Ask.Call.Ops == nil && m.Tell.Answer == nil
}

// someNumber is 1 or more, mostly small, so that some are the same; now and then one of those about which forms or ranges change.
func someNumber(r *rand.Rand) int64 {
	if r.Intn(4) > 0 {
		return 1 + r.Int63n(4)
	}
	return []int64{127, 128, 16383, 16384, 1<<31 - 1, 1 << 31, 1 << 32, 1<<62 - 1, 1 << 62, math.MaxInt64 - 1, math.MaxInt64, 1 + r.Int63()>>r.Intn(63)}[r.Intn(12)]
}

func someCall(r *rand.Rand) api.Call {
	if r.Intn(50) == 0 {
		return sized(4081 + r.Intn(16))
	}
	return parsed(callTexts[r.Intn(len(callTexts))])
}

func someResult(r *rand.Rand) []byte {
	if r.Intn(200) == 0 {
		return greatest()
	}
	return []byte(results()[r.Intn(len(results()))])
}

// someMessage is a message that may be.
func someMessage(r *rand.Rand) api.Message {
	client := r.Intn(8)
	if r.Intn(2) == 0 {
		number := someNumber(r)
		mark := []int64{0, number / 2, number - 1, r.Int63n(number)}[r.Intn(4)]
		return asks(client, []api.Command{
			opening(someNumber(r)), calling(someNumber(r), number, mark, someCall(r)), calling(someNumber(r), number, mark, someCall(r)), closing(someNumber(r)),
		}[r.Intn(4)])
	}
	return tells(client, []api.Reply{
		opened(someNumber(r), someNumber(r)), full(someNumber(r)), answered(someNumber(r), someNumber(r), someResult(r)), answered(someNumber(r), someNumber(r), someResult(r)),
		gone(someNumber(r), someNumber(r)), gone(someNumber(r), 0), stale(someNumber(r), someNumber(r)), ahead(someNumber(r), someNumber(r)), closed(someNumber(r)),
	}[r.Intn(9)])
}

// harm sets one field to something that may or may not be.
func harm(r *rand.Rand, m *api.Message) {
	n := []int64{0, 0, 1, -1, 2, 3, math.MinInt64, math.MaxInt64, someNumber(r)}[r.Intn(9)]
	numbers := []*int64{&m.Ask.Token, &m.Ask.Session, &m.Ask.Number, &m.Ask.Mark, &m.Tell.Token, &m.Tell.Session, &m.Tell.Number}
	switch place := r.Intn(len(numbers) + 6); place {
	default:
		*numbers[place] = n
	case len(numbers):
		m.Kind = api.MessageKind(r.Intn(5) - 1)
	case len(numbers) + 1:
		m.Client = r.Intn(12) - 2
	case len(numbers) + 2:
		m.Ask.Kind = api.CommandKind(r.Intn(6))
	case len(numbers) + 3:
		m.Tell.Kind = api.ReplyKind(r.Intn(9))
	case len(numbers) + 4:
		m.Ask.Call = append(wrongCalls(), api.Call{}, api.Call{}, someCall(r))[r.Intn(len(wrongCalls())+3)]
	case len(numbers) + 5:
		m.Tell.Answer = []byte(append(wrongResults(), "", "", string(someResult(r)))[r.Intn(len(wrongResults())+3)])
	}
}

// harmed is s with some bytes changed, taken out, put in, doubled or cut off.
func harmed(r *rand.Rand, s string) string {
	from, to := r.Intn(min(len(s), 12)+1), r.Intn(len(s)+1)
	from, to = min(from, to), min(max(from, to), min(from, to)+3)
	more := []string{"\x00", "\x01", "\x02", "\x03", "\x04", "\x07", "\x08", "\x80", "\x81\x00", "\x80\x80", "\xff", "t", "\x01k", "\x01\x00"}
	switch r.Intn(6) {
	case 0:
		return s[:from]
	case 1:
		return s[:from] + s[to:]
	case 2:
		return s[:to] + s[from:]
	case 3:
		return s[:from] + more[r.Intn(len(more))] + s[from:]
	case 4:
		return s[:from] + more[r.Intn(len(more))] + s[to:]
	}
	return s
}

// wantRead: Read is as the words say; it tells whether b are the bytes of a message that may be.
func wantRead(t testing.TB, b string) bool {
	t.Helper()
	want, ok := plainRead(b)
	got, e := message.Read([]byte(b))
	if ok && (e != api.OK || !same(got, want)) || !ok && (e != api.ErrBytes || !zero(got)) {
		t.Errorf("Read(% .60x): %s, %v; want %s, %v", b, shortly(got), e, shortly(want), ok)
	}
	return ok
}

// wantMade: a message that Ask or Tell makes is want, or ErrArg, with nothing beside it.
func wantMade(t *testing.T, got api.Message, e api.Errno, want api.Message) {
	t.Helper()
	ok := plainMayBe(want)
	if ok && (e != api.OK || !same(got, want)) || !ok && (e != api.ErrArg || !zero(got)) {
		t.Errorf("made %s, %v; want %s, %v", shortly(got), e, shortly(want), ok)
	}
}

// wantMessage: Check, Ask, Tell, Bytes, Each are as the words say; and what is written is read as it was. It tells whether
// the message may be.
func wantMessage(t *testing.T, m api.Message) bool {
	t.Helper()
	ok := plainMayBe(m)
	want, form := api.ErrArg, ""
	if ok {
		want, form = api.OK, plainForm(m)
	}
	if e := message.Check(m); e != want {
		t.Errorf("Check(%s): %v, want %v", shortly(m), e, want)
	}
	if b, e := message.Bytes(m); string(b) != form || e != want || e != api.OK && b != nil {
		t.Errorf("Bytes(%s): % .60x, %v; want % .60x, %v", shortly(m), b, e, form, want)
	}
	got, e := message.Ask(m.Client, m.Ask)
	wantMade(t, got, e, asks(m.Client, m.Ask))
	got, e = message.Tell(m.Client, m.Tell)
	wantMade(t, got, e, tells(m.Client, m.Tell))
	told := 0
	for place, b := range message.Each(m) {
		told++
		if !ok || place != 0 || string(b) != form {
			t.Errorf("Each(%s): %d, % .60x", shortly(m), place, b)
		}
	}
	if ok && told != 1 {
		t.Errorf("Each(%s) tells %d", shortly(m), told)
	}
	if ok && !wantRead(t, form) {
		t.Errorf("% .60x is not read as it was", form)
	}
	return ok
}

// P15.1, P15.2: of messages, whole and harmed, all is as the words say.
func TestMessagesAreAsTheWordsSay(t *testing.T) {
	r := rand.New(rand.NewSource(151))
	good, bad := 0, 0
	for i := range 15000 {
		m := someMessage(r)
		for n := i % 3; n > 0; n-- {
			harm(r, &m)
		}
		if wantMessage(t, m) {
			good++
		} else {
			bad++
		}
	}
	if good < 5500 || bad < 5500 {
		t.Errorf("%d may be, %d may not", good, bad)
	}
}

// P15.2: of bytes, whole and harmed, Read tells what the words say.
func TestBytesAreAsTheWordsSay(t *testing.T) {
	r := rand.New(rand.NewSource(152))
	some := 0
	for i := range 30000 {
		b := plainForm(someMessage(r))
		for n := i % 3; n > 0; n-- {
			b = harmed(r, b)
		}
		if wantRead(t, b) {
			some++
		}
	}
	if some < 11000 || some > 25000 {
		t.Errorf("%d messages", some)
	}
}

// P15.2: of all short bytes of some kinds just the messages' are read.
func TestShortBytesAreAsTheWordsSay(t *testing.T) {
	some := 0
	all := []string{""}
	for range 7 {
		var longer []string
		for _, s := range all {
			if wantRead(t, s) {
				some++
			}
			for _, b := range []byte("\x00\x01\x02\x03\x04\x07\x80") {
				longer = append(longer, s+string([]byte{b}))
			}
		}
		all = longer
	}
	if some < 500 {
		t.Errorf("%d messages", some)
	}
}

// P15.2: of any bytes Read tells what the words say.
func FuzzRead(f *testing.F) {
	f.Add([]byte(nil))
	for _, m := range eachKind() {
		f.Add([]byte(plainForm(m)))
	}
	f.Fuzz(func(t *testing.T, b []byte) { wantRead(t, string(b)) })
}
