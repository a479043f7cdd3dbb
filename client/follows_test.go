package client_test

import (
	"fmt"
	"math/rand"
	"slices"
	"testing"

	"wicket/api"
	"wicket/client"
)

// past is a client, and what it has said so far.
type past struct {
	k          *client.Client
	window     int64
	now        int64
	invoked    []int64         // the ids that were open, rising
	returned   map[int64]bool  // by ids
	numbers    map[int64]int64 // of the session: the ids by numbers
	tokens     map[int64]bool  // those that it had, the one that it has too
	token      int64
	returns    int
	calls      int
	hadSession bool
}

func newPast(t *testing.T, number int, c api.Config) *past {
	t.Helper()
	k := made(t, number, c)
	return &past{k: k, window: int64(c.Window), returned: map[int64]bool{}, numbers: map[int64]int64{}, tokens: map[int64]bool{k.Token(): true}, token: k.Token()}
}

// invoke: ids rise.
func (p *past) invoke(t *testing.T, c api.Call) {
	t.Helper()
	id, what := p.k.Invoke(c)
	if what != api.OutcomeOpen {
		return
	}
	if n := len(p.invoked); n > 0 && id <= p.invoked[n-1] {
		t.Errorf("the id %d behind %d", id, p.invoked[n-1])
	}
	p.invoked = append(p.invoked, id)
}

// step: of a session each number is given to one call, rising as they were invoked; a Mark is below its Number, and that at
// most the Mark and the window together; another Step at this tick sends nothing.
func (p *past) step(t *testing.T, now int64) {
	t.Helper()
	p.now = now
	l, e := p.k.Step(now)
	if e != api.OK {
		t.Errorf("Step(%d): %v", now, e)
	}
	open := p.k.Open()
	for i, m := range l {
		if i > 0 && m.Ask.Number <= l[i-1].Ask.Number {
			t.Errorf("%d is sent behind %d", m.Ask.Number, l[i-1].Ask.Number)
		}
		if m.Ask.Kind != api.CommandCall {
			continue
		}
		p.calls++
		at := slices.IndexFunc(open, func(s api.Sent) bool { return s.Number == m.Ask.Number })
		if m.Ask.Mark >= m.Ask.Number || m.Ask.Number > m.Ask.Mark+p.window || m.Ask.Mark != p.k.Mark() || at < 0 || open[at].At != now {
			t.Fatalf("%v is sent; open are %v, the mark is %d", m, open, p.k.Mark())
		}
		if id, had := p.numbers[m.Ask.Number]; had && id != open[at].Id {
			t.Errorf("the number %d is of %d and %d", m.Ask.Number, id, open[at].Id)
		}
		p.numbers[m.Ask.Number] = open[at].Id
	}
	last := int64(0)
	for number := int64(1); number <= int64(len(p.numbers)); number++ {
		if p.numbers[number] <= last {
			t.Fatalf("numbers do not rise as calls were invoked: %v", p.numbers)
		}
		last = p.numbers[number]
	}
	if again, e := p.k.Step(now); again != nil || e != api.OK {
		t.Errorf("again at %d: %v, %v", now, again, e)
	}
}

// end: each id that was open returns once at most.
func (p *past) end(t *testing.T, l []api.Return) {
	t.Helper()
	for i, r := range l {
		if i > 0 && r.Id <= l[i-1].Id || p.returned[r.Id] || !slices.Contains(p.invoked, r.Id) || r.Outcome != api.OutcomeResult && r.Outcome != api.OutcomeUnknown {
			t.Errorf("%v returns", l)
		}
		p.returned[r.Id] = true
		p.returns++
	}
	if _, has := p.k.Session(); !has && p.hadSession {
		p.numbers = map[int64]int64{}
	}
}

// check: open are those that were invoked and have not returned; tokens never come back; a session that is gone has another one.
func (p *past) check(t *testing.T) {
	t.Helper()
	var open []int64
	for _, s := range p.k.Open() {
		open = append(open, s.Id)
	}
	if want := slices.DeleteFunc(slices.Clone(p.invoked), func(id int64) bool { return p.returned[id] }); !slices.Equal(open, want) {
		t.Errorf("open are %v, want %v", open, want)
	}
	_, has := p.k.Session()
	token := p.k.Token()
	if token != p.token && p.tokens[token] || p.hadSession && !has && token == p.token {
		t.Errorf("the token %d behind %d", token, p.token)
	}
	p.tokens[token], p.token, p.hadSession = true, token, has
}

// P18.6: it holds at each step, whatever comes.
func TestWhatFollows(t *testing.T) {
	r := rand.New(rand.NewSource(186))
	returns, sent, tokens := 0, 0, 0
	for n := range 60 {
		window := []int{1, 2, 3, 4, 16, 64}[n%6]
		p := newPast(t, n%8, work(window, 1+r.Intn(2*window), 1+int64(r.Intn(4))))
		for range 400 {
			session, has := p.k.Session()
			number := max(1, p.k.Mark()-1+int64(r.Intn(window+3)))
			hear := func(words string) { p.end(t, p.k.Hear(tells(p.k.Number(), reply(words)))) }
			switch m := r.Intn(100); {
			case m < 30:
				p.invoke(t, named([]string{"get t k", "put t a 1", "wrong", "large"}[r.Intn(20)*r.Intn(20)/91]))
			case m < 55:
				p.step(t, p.now+int64(r.Intn(4)))
			case !has && m < 75:
				hear(fmt.Sprint("opened ", p.k.Token(), " ", 1+len(p.tokens)))
			case !has && m == 98, has && m == 99:
				sent, returned := p.k.Leave()
				if (len(sent) == 1) != has {
					t.Errorf("Leave: %v", sent)
				}
				p.end(t, returned)
			case has && m < 90:
				hear(fmt.Sprint("answered ", session, " ", number))
			case has && m < 95:
				hear(fmt.Sprint("stale ", session, " ", number))
			case has && m == 95:
				hear(fmt.Sprint("gone ", session, " ", r.Intn(3)))
			}
			p.check(t)
			if t.Failed() {
				t.FailNow()
			}
		}
		returns, sent, tokens = returns+p.returns, sent+p.calls, tokens+len(p.tokens)
	}
	if returns < 2000 || sent < 4000 || tokens < 200 {
		t.Errorf("%d returned, %d were sent, %d tokens", returns, sent, tokens)
	}
}
