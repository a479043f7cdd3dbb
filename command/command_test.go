package command_test

import (
	"math"
	"strings"
	"testing"

	"wicket/api"
	"wicket/calls"
	"wicket/command"
)

func open(token int64) api.Command {
	return api.Command{Kind: api.CommandOpen, Token: token}
}

func closing(session int64) api.Command {
	return api.Command{Kind: api.CommandClose, Session: session}
}

func expire(session int64) api.Command {
	return api.Command{Kind: api.CommandExpire, Session: session}
}

func calling(session, number, mark int64, c api.Call) api.Command {
	return api.Command{Kind: api.CommandCall, Session: session, Number: number, Mark: mark, Call: c}
}

// parsed is the call whose text it is; of a text that is none it panics.
func parsed(text string) api.Call {
	c, e := calls.Parse(text)
	if e != api.OK {
		panic(text)
	}
	return c
}

// sized is a call whose form has so many bytes, from 4081 to 4209.
func sized(many int) api.Call {
	var c api.Call
	for range 15 {
		c.Ops = append(c.Ops, put(256))
	}
	return api.Call{Ops: append(c.Ops, put(many-3953))}
}

func put(value int) api.Op {
	return api.Op{Kind: api.Put, Table: "t", Key: []byte("k"), Value: []byte(strings.Repeat("a", value))}
}

// wrongCalls may not be, or are too long.
func wrongCalls() []api.Call {
	key := []byte("k")
	many := api.Call{}
	for range 17 {
		many.Ops = append(many.Ops, api.Op{Kind: api.Get, Table: "t", Key: key})
	}
	wrong := []api.Call{{Ops: []api.Op{}}, many, sized(4097)}
	for _, op := range []api.Op{
		{}, {Kind: 6, Table: "t", Key: key}, {Kind: api.Get, Table: "t"}, {Kind: api.Get, Key: key}, {Kind: api.Get, Table: "T", Key: key},
		{Kind: api.Get, Table: "t", Key: key, Value: key}, {Kind: api.Scan, Table: "t"}, {Kind: api.Put, Table: "t", Key: key, Value: make([]byte, 257)},
		{Kind: api.Swap, Table: "t", Key: key, Old: key},
	} {
		wrong = append(wrong, api.Call{Ops: []api.Op{op}}, api.Call{Ops: []api.Op{put(1), op}})
	}
	return wrong
}

// eachKind is a command of each kind that may be.
func eachKind() []api.Command {
	return []api.Command{open(5), calling(3, 4, 2, parsed("put t k v")), closing(3), expire(3)}
}

// wantRefused: the command may not be, say this package and the words.
func wantRefused(t *testing.T, c api.Command) {
	t.Helper()
	if e := command.Check(c); e != api.ErrArg {
		t.Errorf("Check(%.200v): %v", c, e)
	}
	wantCommand(t, c)
}

// wantTaken: the command may be, say this package and the words.
func wantTaken(t *testing.T, c api.Command) {
	t.Helper()
	if e := command.Check(c); e != api.OK {
		t.Errorf("Check(%.200v): %v", c, e)
	}
	wantCommand(t, c)
}

// The chapter's section 'Examples'.
func TestExamples(t *testing.T) {
	get := calling(1, 2, 0, parsed("get t k"))
	for want, c := range map[string]api.Command{
		"\x01\x0a": open(5), "\x03\x06": closing(3), "\x02\x02\x04\x00\x06\x01\x01\x01\x74\x01\x6b": get, "\x04\x06": expire(3),
	} {
		if b, e := command.Bytes(c); string(b) != want || e != api.OK {
			t.Errorf("Bytes(%v): % x, %v; want % x", c, b, e, want)
		}
		if got, e := command.Read([]byte(want)); !same(got, c) || e != api.OK {
			t.Errorf("Read(% x): %v, %v; want %v", want, got, e, c)
		}
		wantTaken(t, c)
	}
	withToken := closing(3)
	withToken.Token = 1
	for _, c := range []api.Command{open(0), calling(1, 2, 2, parsed("get t k")), withToken} {
		wantRefused(t, c)
	}
	if s, e := command.Text(get); s != "call 1 2 0 get t k" || e != api.OK {
		t.Errorf("Text: %q, %v", s, e)
	}
	wantNoText(t, "open 05")
	if c, e := command.Parse("close 3"); !same(c, closing(3)) || e != api.OK {
		t.Errorf("Parse: %v, %v", c, e)
	}
}

// P9.1: the four kinds may be, those below and above them may not, whatever their fields.
func TestKinds(t *testing.T) {
	for _, c := range eachKind() {
		wantTaken(t, c)
		for _, kind := range []api.CommandKind{0, 5, 6, 7, -1, -2, 128, 257, 258, 1<<32 + 1, 1<<32 + 2, math.MaxInt, math.MinInt} {
			other := c
			other.Kind = kind
			wantRefused(t, other)
		}
	}
	wantRefused(t, api.Command{})
	for kind := api.CommandKind(-2); kind <= 7; kind++ {
		wantRefused(t, api.Command{Kind: kind})
	}
}

// P9.1: each number that a kind names goes from its least on, and up to the greatest one there is.
func TestNumbersAtTheirBounds(t *testing.T) {
	get := parsed("get t k")
	for _, make := range []func(int64) api.Command{
		open, closing, expire, func(n int64) api.Command { return calling(n, 1, 0, get) }, func(n int64) api.Command { return calling(1, n, 0, get) },
	} {
		for _, n := range []int64{1, 2, 63, 64, 8191, 8192, 1 << 32, 1 << 62, math.MaxInt64 - 1, math.MaxInt64} {
			wantTaken(t, make(n))
		}
		for _, n := range []int64{0, -1, -2, -64, -65, -1 << 32, math.MinInt64 + 1, math.MinInt64} {
			wantRefused(t, make(n))
		}
	}
}

// P9.1: a mark is 0 or more, and below the number.
func TestMarkIsBelowNumber(t *testing.T) {
	get := parsed("get t k")
	for _, number := range []int64{1, 2, 3, 65, 1 << 40, math.MaxInt64 - 1} {
		for _, mark := range []int64{0, number / 2, number - 1} {
			wantTaken(t, calling(1, number, mark, get))
		}
		for _, mark := range []int64{-1, -number, math.MinInt64, number, number + 1, math.MaxInt64} {
			wantRefused(t, calling(1, number, mark, get))
		}
	}
	wantTaken(t, calling(1, math.MaxInt64, math.MaxInt64-1, get))
	wantRefused(t, calling(1, math.MaxInt64, math.MaxInt64, get))
	for _, number := range []int64{0, -1, -5, math.MinInt64} {
		for _, mark := range []int64{0, -1, -6, number, 1, math.MinInt64} {
			wantRefused(t, calling(1, number, mark, get))
		}
	}
}

// P9.1: a field that a kind does not name is zero.
func TestFieldsThatAreNotNamed(t *testing.T) {
	fields := map[string]func(*api.Command, int64){
		"Token":   func(c *api.Command, n int64) { c.Token = n },
		"Session": func(c *api.Command, n int64) { c.Session = n },
		"Number":  func(c *api.Command, n int64) { c.Number = n },
		"Mark":    func(c *api.Command, n int64) { c.Mark = n },
	}
	for i, unnamed := range [][]string{{"Session", "Number", "Mark"}, {"Token"}, {"Token", "Number", "Mark"}, {"Token", "Number", "Mark"}} {
		for _, field := range unnamed {
			for _, n := range []int64{1, 2, 3, 5, -1, math.MaxInt64, math.MinInt64} {
				c := eachKind()[i]
				fields[field](&c, n)
				wantRefused(t, c)
			}
		}
	}
	for _, c := range []api.Command{open(5), closing(3), expire(3)} {
		for _, text := range callTexts {
			c.Call = parsed(text)
			wantRefused(t, c)
		}
		c.Call = api.Call{Ops: []api.Op{{}}}
		wantRefused(t, c)
		// A list without things is as none.
		c.Call = api.Call{Ops: []api.Op{}}
		wantTaken(t, c)
		c.Call = api.Call{Ops: make([]api.Op, 0, 3)}
		wantTaken(t, c)
	}
	all := calling(3, 4, 2, parsed("put t k v"))
	all.Token = 5
	for kind := api.CommandOpen; kind <= api.CommandExpire; kind++ {
		all.Kind = kind
		wantRefused(t, all)
	}
}

// P9.1: the call of a Call may be, and is not too long; else it is ErrArg, whichever of both is wrong.
func TestCallOfACall(t *testing.T) {
	for _, text := range callTexts {
		wantTaken(t, calling(1, 1, 0, parsed(text)))
	}
	wantRefused(t, calling(1, 1, 0, api.Call{}))
	for _, c := range wrongCalls() {
		wantRefused(t, calling(1, 1, 0, c))
	}
	if e := calls.Check(sized(4097)); e != api.ErrLong {
		t.Fatalf("a call of 4097 bytes: %v", e)
	}
	for _, many := range []int{4095, 4096} {
		c := sized(many)
		if b, e := calls.Bytes(c); len(b) != many || e != api.OK {
			t.Fatalf("a call of %d bytes: %d, %v", many, len(b), e)
		}
		wantTaken(t, calling(1, 1, 0, c))
		wantTaken(t, calling(math.MaxInt64, math.MaxInt64, math.MaxInt64-1, c))
	}
	for _, many := range []int{4097, 4098, 4209} {
		wantRefused(t, calling(1, 1, 0, sized(many)))
	}
}
