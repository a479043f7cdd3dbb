package client_test

import (
	"fmt"
	"math/rand"
	"slices"
	"strconv"
	"strings"
	"testing"

	"wicket/api"
	"wicket/calls"
	"wicket/client"
)

// plainCall is a call that was open at some time. Its round is the number of the session in which it got its number, counted by
// the client's own sessions; 0: it has none.
type plainCall struct {
	id, number, at int64
	round          int
	text           string
	returned       bool
}

// plain is a client as DOC.md and the chapter say it: all calls that it ever had, and what came of them.
type plain struct {
	client              int
	window, wait        int64
	timeout             int64
	tokens              int64   // so many were given up
	asks                []int64 // the ticks at which it asked with this token
	session, ids, tick  int64
	round               int
	all                 []plainCall
	rejects, tooLong    string
	told, sent, retried int // what happened, so that a test can say that it did
}

func newPlain(number int, c api.Config) *plain {
	return &plain{client: number, window: int64(c.Window), wait: int64(c.Wait), timeout: c.Timeout, rejects: "wrong", tooLong: "large"}
}

func (p *plain) copy() *plain {
	c := *p
	c.asks, c.all = slices.Clone(p.asks), slices.Clone(p.all)
	return &c
}

func (p *plain) token() int64 {
	return int64(p.client) + 1 + 8*p.tokens
}

// open are the places of the calls that are open.
func (p *plain) open() []int {
	var l []int
	for i, c := range p.all {
		if !c.returned {
			l = append(l, i)
		}
	}
	return l
}

// mark: the greatest number up to which all calls of the session that had numbers have returned.
func (p *plain) mark() int64 {
	if p.session == 0 {
		return 0
	}
	for mark := int64(0); ; mark++ {
		next := p.numbered(mark + 1)
		if next < 0 || !p.all[next].returned {
			return mark
		}
	}
}

// numbered is the place of the session's call with that number; -1: there is none.
func (p *plain) numbered(number int64) int {
	return slices.IndexFunc(p.all, func(c plainCall) bool { return p.session > 0 && c.round == p.round && c.number == number })
}

func (p *plain) invoke(name string) string {
	p.ids++
	what := "open"
	switch {
	case name == p.rejects:
		what = "rejected"
	case name == p.tooLong:
		what = "large"
	case int64(len(p.open())) == p.wait:
		what = "busy"
	default:
		p.all = append(p.all, plainCall{id: p.ids, text: name})
	}
	return fmt.Sprint(p.ids, " ", what)
}

func (p *plain) step(now int64) string {
	if now < 0 || now > 1<<40 || now < p.tick {
		return "error 2"
	}
	p.tick = now
	var words []string
	say := func(s string) { words = append(words, fmt.Sprint(p.client, ": ", s)) }
	if p.session == 0 {
		n := len(p.asks)
		if (n == 0 || now-p.asks[n-1] >= p.timeout) && len(p.open()) > 0 {
			p.asks = append(p.asks, now)
			say(fmt.Sprint("open ", p.token()))
		}
		return strings.Join(words, " | ")
	}
	fresh := map[int]bool{}
	for _, i := range p.open() {
		next := int64(1)
		for p.numbered(next) >= 0 {
			next++
		}
		if p.all[i].number == 0 && next <= p.mark()+p.window {
			p.all[i].number, p.all[i].round, fresh[i] = next, p.round, true
		}
	}
	for number := p.mark() + 1; number <= p.mark()+p.window; number++ {
		i := p.numbered(number)
		if i < 0 || p.all[i].returned || !fresh[i] && now-p.all[i].at < p.timeout {
			continue
		}
		if !fresh[i] {
			p.retried++
		}
		p.sent++
		p.all[i].at = now
		say(fmt.Sprint("call ", p.session, " ", number, " ", p.mark(), " ", p.all[i].text))
	}
	return strings.Join(words, " | ")
}

// hear is what comes of a reply that is to this client.
func (p *plain) hear(r api.Reply) string {
	at := -1
	if r.Session == p.session {
		at = p.numbered(r.Number)
	}
	is := at >= 0 && !p.all[at].returned
	switch {
	case r.Kind == api.ReplyOpened && p.session == 0 && r.Token == p.token():
		p.session = r.Session
		p.round++
	case r.Kind == api.ReplyAnswered && is:
		p.told++
		p.all[at].returned = true
		return fmt.Sprint(p.all[at].id, " result ", r.Session, " ", r.Number)
	case r.Kind == api.ReplyStale && is:
		p.all[at].returned = true
		return fmt.Sprint(p.all[at].id, " unknown")
	case r.Kind == api.ReplyGone && p.session > 0 && r.Session == p.session:
		return p.gone()
	}
	return ""
}

func (p *plain) gone() string {
	var words []string
	for _, i := range p.open() {
		if p.all[i].number > 0 {
			p.all[i].returned = true
			words = append(words, fmt.Sprint(p.all[i].id, " unknown"))
		}
	}
	p.session, p.asks = 0, nil
	p.tokens++
	return strings.Join(words, ", ")
}

func (p *plain) leave() string {
	if p.session > 0 {
		closing := fmt.Sprint(p.client, ": close ", p.session, "; ")
		return closing + p.gone()
	}
	if len(p.asks) > 0 {
		p.tokens++
		p.asks = nil
	}
	return "; "
}

func (p *plain) do(line string) string {
	word, rest, _ := strings.Cut(line, " ")
	switch word {
	case "invoke":
		return p.invoke(rest)
	case "step":
		now, _ := strconv.ParseInt(rest, 10, 64)
		return p.step(now)
	case "leave":
		return p.leave()
	}
	return p.hear(reply(line))
}

func (p *plain) see() string {
	words := []string{fmt.Sprint(p.client, ": token ", p.token(), " session ", p.session, " mark ", p.mark(), ":")}
	for _, i := range p.open() {
		c := p.all[i]
		if c.number == 0 {
			words = append(words, fmt.Sprint(c.id))
		} else {
			words = append(words, fmt.Sprintf("%d#%d@%d", c.id, c.number, c.at))
		}
	}
	return strings.Join(words, " ")
}

// both are a client and what the words say of it, and what was done to them.
type both struct {
	k     *client.Client
	p     *plain
	lines []string
}

func newBoth(t *testing.T, number int, c api.Config) both {
	t.Helper()
	return both{k: made(t, number, c), p: newPlain(number, c)}
}

func (b both) copy() both {
	return both{b.k.Copy(), b.p.copy(), slices.Clone(b.lines)}
}

func (b *both) check(t *testing.T, line string) {
	t.Helper()
	b.lines = append(b.lines, line)
	if got, want := do(b.k, line), b.p.do(line); got != want {
		t.Fatalf("%q: %q, want %q", b.lines, got, want)
	}
	if got, want := see(b.k), b.p.see(); got != want {
		t.Fatalf("behind %q: %q, want %q", b.lines, got, want)
	}
}

// rows does all rows of so many lines to copies of b, and tells how many these were.
func rows(t *testing.T, b both, many int) int {
	t.Helper()
	if many == 0 {
		return 1
	}
	token, tick := b.p.token(), b.p.tick
	all := 0
	for _, line := range []string{
		"invoke get t k", "invoke wrong", fmt.Sprint("step ", tick), fmt.Sprint("step ", tick+1), fmt.Sprint("step ", tick+2), fmt.Sprint("step ", tick-1),
		fmt.Sprint("opened ", token, " 5"), fmt.Sprint("opened ", token-8, " 5"), "answered 5 1", "answered 5 2", "stale 5 1", "gone 5 1", "gone 4 1", "leave",
	} {
		c := b.copy()
		c.check(t, line)
		all += rows(t, c, many-1)
	}
	return all
}

// P18.1 to P18.5: each row of lines, from each of some beginnings, with small windows, few open calls and a short timeout.
func TestEachRowOfLines(t *testing.T) {
	for _, c := range []api.Config{work(1, 2, 2), work(2, 3, 2), work(3, 1, 1)} {
		for _, beginning := range [][]string{
			{}, {"invoke put t a 1", "step 3"}, {"opened 3 5", "invoke put t a 1", "invoke get t b", "step 3"}, {"invoke get t a", "opened 3 5", "invoke put t b 1", "step 3", "answered 5 1", "invoke put t c 1", "invoke put t d 1"},
			{"opened 3 5", "invoke get t a", "invoke get t b", "invoke get t c", "step 3", "step 4", "answered 5 2"},
		} {
			b := newBoth(t, 2, c)
			for _, line := range beginning {
				b.check(t, line)
			}
			if many := rows(t, b, 4); many != 14*14*14*14 {
				t.Errorf("%d rows of lines", many)
			}
		}
	}
}

// anyLine is a line that is near to what the client may be waiting for.
func anyLine(r *rand.Rand, p *plain) string {
	session := p.session - int64(r.Intn(8)/7) + int64(r.Intn(8)/7)
	if session < 1 {
		session = 1 + int64(r.Intn(3))
	}
	number := max(1, p.mark()+int64(r.Intn(int(p.window)+3))-1)
	switch n := r.Intn(40); {
	case n < 11:
		return "invoke " + []string{"get t k", "put t a 1", "put t b 2; get t b", "delete t a", "scan t % % 9", "wrong", "large"}[r.Intn(7)]
	case n < 22:
		return fmt.Sprint("step ", p.tick+int64(r.Intn(4)*r.Intn(int(p.timeout)))-int64(r.Intn(20)/19))
	case n < 31:
		return fmt.Sprint("answered ", session, " ", number)
	case n < 33:
		return fmt.Sprint("stale ", session, " ", number)
	case n < 34:
		return fmt.Sprint("ahead ", session, " ", number)
	case n < 35:
		return []string{fmt.Sprint("full ", p.token()), fmt.Sprint("closed ", session), "leave"}[r.Intn(12)/5]
	case n < 36:
		return fmt.Sprint("gone ", session+1-int64(r.Intn(10)/9), " ", r.Intn(5))
	}
	return fmt.Sprint("opened ", p.token()-int64(8*(r.Intn(5)/4))*min(1, p.tokens), " ", 1+int64(p.round)*3)
}

// P18.1 to P18.5: any lines, one behind the other, of a client and of copies that are made by the way.
func TestAnyLines(t *testing.T) {
	r := rand.New(rand.NewSource(181))
	var told, sent, retried, rounds int
	for n := range 150 {
		windows, waits := []int{1, 2, 3, 5, 8, 64}, []int{1, 2, 3, 7, 20, 100}
		all := []both{newBoth(t, n%8, work(windows[r.Intn(6)], waits[r.Intn(6)], 1+int64(r.Intn(6))))}
		for range 300 {
			at := r.Intn(len(all))
			all[at].check(t, anyLine(r, all[at].p))
			if len(all) < 3 && r.Intn(60) == 0 {
				all = append(all, all[at].copy())
			}
			for _, b := range all {
				if got, want := see(b.k), b.p.see(); got != want {
					t.Fatalf("behind %q: %q, want %q", b.lines, got, want)
				}
			}
		}
		for _, b := range all {
			told, sent, retried, rounds = told+b.p.told, sent+b.p.sent, retried+b.p.retried, rounds+b.p.round
		}
	}
	if told < 2000 || sent < 10000 || retried < 5000 || rounds < 600 {
		t.Errorf("%d results, %d calls sent, %d again, %d sessions", told, sent, retried, rounds)
	}
}

// The names of calls are texts that are told as they were written.
func TestNamesOfCalls(t *testing.T) {
	for _, name := range []string{"get t k", "put t b 2; get t b", "scan t % % 9"} {
		if s, e := calls.Text(named(name)); s != name || e != api.OK {
			t.Errorf("%q is %q, %v", name, s, e)
		}
	}
}
