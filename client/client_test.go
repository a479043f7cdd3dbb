package client_test

import (
	"fmt"
	"math"
	"strconv"
	"strings"
	"testing"

	"wicket/api"
	"wicket/calls"
	"wicket/client"
	"wicket/command"
)

// work is a job with that window, so many calls open, that timeout.
func work(window, wait int, timeout int64) api.Config {
	return api.Config{Quota: api.Quota{Rows: 9, Bytes: 900}, Window: window, Queue: 9, Wait: wait, Timeout: timeout, Idle: 9, Log: 1000}
}

func made(t *testing.T, number int, c api.Config) *client.Client {
	t.Helper()
	k, e := client.New(number, c)
	if k == nil || e != api.OK {
		t.Fatalf("New(%d, %v): a client %t, %v", number, c, k != nil, e)
	}
	return k
}

func parsed(text string) api.Call {
	c, e := calls.Parse(text)
	if e != api.OK {
		panic(text)
	}
	return c
}

// sized is a call of sixteen Puts whose form has so many bytes, 2161 to 4209 (values of 128 to 256 bytes).
func sized(form int) api.Call {
	ops := make([]api.Op, api.MaxOps)
	rest := form - 1 - 7*api.MaxOps
	for i := range ops {
		value := rest / (api.MaxOps - i)
		ops[i] = api.Op{Kind: api.Put, Table: "t", Key: []byte("k"), Value: make([]byte, value)}
		rest -= value
	}
	return api.Call{Ops: ops}
}

// answer is the bytes of a result that tells a session and a number, so that no two of them are alike.
func answer(session, number int64) []byte {
	b, e := calls.Result(api.Result{Outs: []api.Out{{Has: true, Value: []byte(fmt.Sprint(session, " ", number))}}})
	if e != api.OK {
		panic(e)
	}
	return b
}

func tells(number int, r api.Reply) api.Message {
	return api.Message{Kind: api.MessageTell, Client: number, Tell: r}
}

// reply is the one that words say: its kind and its numbers.
func reply(words string) api.Reply {
	f := strings.Fields(words)
	n := make([]int64, 3)
	for i, word := range f[1:] {
		n[i], _ = strconv.ParseInt(word, 10, 64)
	}
	switch f[0] {
	case "opened":
		return api.Reply{Kind: api.ReplyOpened, Token: n[0], Session: n[1]}
	case "full":
		return api.Reply{Kind: api.ReplyFull, Token: n[0]}
	case "answered":
		return api.Reply{Kind: api.ReplyAnswered, Session: n[0], Number: n[1], Answer: answer(n[0], n[1])}
	case "gone":
		return api.Reply{Kind: api.ReplyGone, Session: n[0], Number: n[1]}
	case "stale":
		return api.Reply{Kind: api.ReplyStale, Session: n[0], Number: n[1]}
	case "ahead":
		return api.Reply{Kind: api.ReplyAhead, Session: n[0], Number: n[1]}
	case "closed":
		return api.Reply{Kind: api.ReplyClosed, Session: n[0]}
	}
	panic(words)
}

// named is the call that is called so: one that may not be, one that is too long, or one by its text.
func named(name string) api.Call {
	switch name {
	case "wrong":
		return api.Call{}
	case "large":
		return sized(api.MaxCall + 1)
	}
	return parsed(name)
}

// asked is what messages ask as a text: "0: open 1 | 0: call 9 1 0 get t k".
func asked(l []api.Message) string {
	var words []string
	for _, m := range l {
		s, e := command.Text(m.Ask)
		if e != api.OK || m.Kind != api.MessageAsk || m.Tell.Kind != 0 {
			s = fmt.Sprint(m)
		}
		words = append(words, fmt.Sprint(m.Client)+": "+s)
	}
	return strings.Join(words, " | ")
}

// came is what came of calls as a text: "1 result 9 1, 4 unknown", with what an answer says.
func came(l []api.Return) string {
	var words []string
	for _, r := range l {
		s := fmt.Sprint(r.Id, " ", outcome(r.Outcome))
		if r.Outcome == api.OutcomeResult {
			result, e := calls.ReadResult(r.Answer)
			if e != api.OK || len(result.Outs) != 1 {
				s = fmt.Sprint(r)
			} else {
				s += " " + string(result.Outs[0].Value)
			}
		} else if len(r.Answer) > 0 {
			s = fmt.Sprint(r)
		}
		words = append(words, s)
	}
	return strings.Join(words, ", ")
}

func outcome(o api.Outcome) string {
	if o < 0 || int(o) > 5 {
		return fmt.Sprint("outcome ", int(o))
	}
	return []string{"open", "result", "unknown", "rejected", "large", "busy"}[o]
}

// do does what a line says to a client, and tells what it answers: "invoke" and a call, "step" and a tick, "leave", or what is
// heard.
func do(k *client.Client, line string) string {
	word, rest, _ := strings.Cut(line, " ")
	switch word {
	case "invoke":
		id, what := k.Invoke(named(rest))
		return fmt.Sprint(id, " ", outcome(what))
	case "step":
		now, _ := strconv.ParseInt(rest, 10, 64)
		l, e := k.Step(now)
		if e != api.OK {
			return e.Error() + asked(l)
		}
		return asked(l)
	case "leave":
		l, returned := k.Leave()
		return asked(l) + "; " + came(returned)
	}
	return came(k.Hear(tells(k.Number(), reply(line))))
}

// see is all that can be seen of a client: its number, token, session, mark; then the calls that are open, each as
// id#number@tick, or the id alone, if it has no number.
func see(k *client.Client) string {
	session, has := k.Session()
	if has != (session > 0) {
		return fmt.Sprint("the session ", session, ", ", has)
	}
	words := []string{fmt.Sprint(k.Number(), ": token ", k.Token(), " session ", session, " mark ", k.Mark(), ":")}
	for _, o := range k.Open() {
		if o.Number == 0 && o.At == 0 {
			words = append(words, fmt.Sprint(o.Id))
		} else {
			words = append(words, fmt.Sprintf("%d#%d@%d", o.Id, o.Number, o.At))
		}
	}
	return strings.Join(words, " ")
}

// play does lines, each with what is answered, or, behind "see", what is seen.
func play(t *testing.T, k *client.Client, lines ...string) *client.Client {
	t.Helper()
	for i := 0; i+1 < len(lines); i += 2 {
		line, want := lines[i], lines[i+1]
		got := ""
		if line == "see" {
			got = see(k)
		} else {
			got = do(k, line)
		}
		if got != want {
			t.Errorf("%d. %s: %q, want %q", i/2+1, line, got, want)
		}
	}
	return k
}

// ready is a client 0 in the session 9, with so many Gets invoked of which as many as the window lets have been sent at the
// tick 7.
func ready(t *testing.T, window, wait int, timeout int64, many int) *client.Client {
	t.Helper()
	k := made(t, 0, work(window, wait, timeout))
	do(k, "opened 1 9")
	for range many {
		do(k, "invoke get t k")
	}
	do(k, "step 7")
	return k
}

// The chapter's examples.
func TestExamples(t *testing.T) {
	play(t, made(t, 0, work(2, 3, 5)),
		"step 0", "", "invoke put t k v", "1 open", "invoke wrong", "2 rejected", "step 1", "0: open 1", "step 2", "", "step 6", "0: open 1",
		"opened 1 9", "", "see", "0: token 1 session 9 mark 0: 1",
		"invoke put t k v", "3 open", "invoke put t k v", "4 open", "invoke put t k v", "5 busy",
		"step 7", "0: call 9 1 0 put t k v | 0: call 9 2 0 put t k v", "answered 9 2", "3 result 9 2", "see", "0: token 1 session 9 mark 0: 1#1@7 4",
		"answered 9 1", "1 result 9 1", "see", "0: token 1 session 9 mark 2: 4",
		"step 8", "0: call 9 3 2 put t k v", "see", "0: token 1 session 9 mark 2: 4#3@8",
		"gone 9 0", "4 unknown", "see", "0: token 9 session 0 mark 0:")
}

// P18.1: the numbers of clients.
func TestNewNumbers(t *testing.T) {
	for number := range api.MaxClients {
		play(t, made(t, number, work(1, 1, 1)), "see", fmt.Sprintf("%d: token %d session 0 mark 0:", number, number+1))
	}
	for _, number := range []int{-1, -8, math.MinInt, api.MaxClients, api.MaxClients + 1, 256, 1 << 32, math.MaxInt} {
		if k, e := client.New(number, work(2, 3, 5)); k != nil || e != api.ErrArg {
			t.Errorf("New of %d: a client %t, %v", number, k != nil, e)
		}
	}
}

// bounded is a field of a job, and the most that it may be.
type bounded struct {
	name string
	most int64
	set  func(c *api.Config, n int64)
}

func fields() []bounded {
	return []bounded{
		{"Rows", 4096, func(c *api.Config, n int64) { c.Quota.Rows = int(n) }}, {"Bytes", 1 << 20, func(c *api.Config, n int64) { c.Quota.Bytes = int(n) }},
		{"Window", 64, func(c *api.Config, n int64) { c.Window = int(n) }}, {"Queue", 1024, func(c *api.Config, n int64) { c.Queue = int(n) }},
		{"Wait", 1024, func(c *api.Config, n int64) { c.Wait = int(n) }}, {"Timeout", 1 << 40, func(c *api.Config, n int64) { c.Timeout = n }},
		{"Idle", 1 << 40, func(c *api.Config, n int64) { c.Idle = n }}, {"Log", 1 << 20, func(c *api.Config, n int64) { c.Log = int(n) }},
	}
}

// P18.1: each field of the job is from 1 to its bound.
func TestNewJobs(t *testing.T) {
	for _, f := range fields() {
		for _, n := range []int64{1, 2, f.most / 2, f.most - 1, f.most} {
			c := work(2, 3, 5)
			f.set(&c, n)
			play(t, made(t, 3, c), "see", "3: token 4 session 0 mark 0:", "step 0", "", "invoke get t k", "1 open", "step 0", "3: open 4")
		}
		for _, n := range []int64{0, -1, -f.most, math.MinInt64, f.most + 1, 2 * f.most, 1<<62 + 1, math.MaxInt64} {
			c := work(2, 3, 5)
			f.set(&c, n)
			if k, e := client.New(0, c); k != nil || e != api.ErrArg {
				t.Errorf("New with %s %d: a client %t, %v", f.name, n, k != nil, e)
			}
		}
	}
	if k, e := client.New(0, api.Config{}); k != nil || e != api.ErrArg {
		t.Errorf("New of no job: a client %t, %v", k != nil, e)
	}
}
