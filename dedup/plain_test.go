package dedup_test

import (
	"fmt"
	"math/rand"
	"slices"
	"strings"
	"testing"

	"wicket/api"
	"wicket/calls"
	"wicket/command"
	"wicket/dedup"
	"wicket/engine"
)

// plainSession and plain are sessions and a machine as DOC.md says them, in 'What commands do', step by step.
type plainSession struct {
	token, mark int64
	kept        map[int64]string
}

type plain struct {
	e        *engine.Engine
	window   int
	next     int64
	sessions map[int64]plainSession
}

func (p *plain) copy() *plain {
	c := &plain{p.e.Copy(), p.window, p.next, map[int64]plainSession{}}
	for id, s := range p.sessions {
		kept := map[int64]string{}
		for n, answer := range s.kept {
			kept[n] = answer
		}
		c.sessions[id] = plainSession{s.token, s.mark, kept}
	}
	return c
}

func (p *plain) living() []api.Living {
	var l []api.Living
	for id, s := range p.sessions {
		one := api.Living{Id: id, Token: s.token, Mark: s.mark}
		for n, answer := range s.kept {
			one.Kept = append(one.Kept, api.Kept{Number: n, Answer: []byte(answer)})
		}
		slices.SortFunc(one.Kept, func(a, b api.Kept) int { return compare(a.Number, b.Number) })
		l = append(l, one)
	}
	slices.SortFunc(l, func(a, b api.Living) int { return compare(a.Id, b.Id) })
	return l
}

func compare(a, b int64) int {
	if a < b {
		return -1
	}
	return map[bool]int{true: 1}[a > b]
}

func (p *plain) see() state {
	return state{p.e.Quota(), p.window, rowsText(listed(p.e.All())), p.next, livingText(p.living())}
}

func (p *plain) token(token int64) int64 {
	for id, s := range p.sessions {
		if s.token == token {
			return id
		}
	}
	return 0
}

func (p *plain) do(c api.Command) string {
	if command.Check(c) != api.OK {
		return "error 2"
	}
	s, lives := p.sessions[c.Session]
	switch {
	case c.Kind == api.CommandOpen:
		return p.open(c.Token)
	case c.Kind == api.CommandCall && lives:
		return fmt.Sprintf(p.call(s, c), c.Session, c.Number)
	case c.Kind == api.CommandCall:
		return fmt.Sprintf("gone %d %d", c.Session, c.Number)
	case lives:
		delete(p.sessions, c.Session)
		return fmt.Sprintf("closed %d", c.Session)
	}
	return fmt.Sprintf("gone %d", c.Session)
}

func (p *plain) open(token int64) string {
	if id := p.token(token); id > 0 {
		return fmt.Sprintf("opened %d %d", token, id)
	}
	if len(p.sessions) == 256 || p.next == lastNext {
		return fmt.Sprintf("full %d", token)
	}
	p.sessions[p.next] = plainSession{token, 0, map[int64]string{}}
	p.next++
	return fmt.Sprintf("opened %d %d", token, p.next-1)
}

// call has the session's and the call's numbers still to be filled in.
func (p *plain) call(s plainSession, c api.Command) string {
	if c.Number <= s.mark {
		return "stale %d %d"
	}
	if c.Mark > s.mark {
		s.mark = c.Mark
		for n := range s.kept {
			if n <= s.mark {
				delete(s.kept, n)
			}
		}
		p.sessions[c.Session] = s
	}
	answer, has := s.kept[c.Number]
	if !has && c.Number-s.mark > int64(p.window) {
		return "ahead %d %d"
	}
	if !has {
		r, _ := p.e.Do(c.Call)
		b, _ := calls.Result(r)
		answer = string(b)
		s.kept[c.Number] = answer
	}
	return "answered %d %d " + strings.ReplaceAll(answerText([]byte(answer)), "%", "%%")
}

// both is a machine and what it must be.
type both struct {
	m *dedup.Machine
	p *plain
}

func bothOf(t *testing.T, s state) both {
	t.Helper()
	e, errno := engine.New(s.quota, rows(s.rows)...)
	if errno != api.OK {
		t.Fatalf("the rows %q: %v", s.rows, errno)
	}
	p := &plain{e, s.window, s.next, map[int64]plainSession{}}
	for _, l := range living(s.living) {
		kept := map[int64]string{}
		for _, k := range l.Kept {
			kept[k.Number] = string(k.Answer)
		}
		p.sessions[l.Id] = plainSession{l.Token, l.Mark, kept}
	}
	return both{of(t, s), p}
}

func (b both) copy() both {
	return both{b.m.Copy(), b.p.copy()}
}

func (b both) do(t *testing.T, c api.Command) string {
	t.Helper()
	was := b.p.see()
	got, want := said(b.m.Do(c)), b.p.do(c)
	if got != want {
		t.Fatalf("Do(%v) of %v: %q, want %q", c, was, got, want)
	}
	b.check(t)
	return got
}

// check holds all that is told of both against each other.
func (b both) check(t *testing.T) {
	t.Helper()
	if got, want := see(b.m), b.p.see(); got != want {
		t.Fatalf("%v, want %v", got, want)
	}
}

// find holds what is told of one session, and of one token, against each other.
func (b both) find(t *testing.T, id, token int64) {
	t.Helper()
	_, lives := b.p.sessions[id]
	l, e := b.m.Session(id)
	if b.m.Live(id) != lives || (e == api.OK) != lives || lives && !strings.Contains("; "+b.p.see().living+"; ", "; "+livingText([]api.Living{l})+"; ") {
		t.Fatalf("Live(%d), Session: %t, %v, %v", id, b.m.Live(id), l, e)
	}
	got, e := b.m.Token(token)
	if want := b.p.token(token); got != want || (e == api.OK) != (want > 0) {
		t.Fatalf("Token(%d): %d, %v, want %d", token, got, e, want)
	}
}

// P11.2: of small windows each session, and each Call that can come to it, new or not, done or aborted.
func TestEachCallToEachSession(t *testing.T) {
	texts := []string{"put t a 2", "get t a", "swap t a +9 9", "delete t a; put t b 1; put t c 1"}
	for window := 1; window <= 3; window++ {
		for _, mark := range []int64{0, 1, 3, 62, 64, most - 4, most - 2} {
			for which := range 1 << window {
				var words []string
				for i := range int64(window) {
					if which>>i&1 == 1 && i < most-mark {
						words = append(words, fmt.Sprintf("%d=%s", mark+1+i, []string{"x", "", "zzz"}[i]))
					}
				}
				s := state{api.Quota{Rows: 1, Bytes: 9}, window, "t/a=1", 3, strings.TrimSpace(fmt.Sprintf("2/5/%d %s", mark, strings.Join(words, " ")))}
				eachCall(t, bothOf(t, s), mark, int64(window), texts)
			}
		}
	}
}

func eachCall(t *testing.T, b both, mark, window int64, texts []string) {
	t.Helper()
	for d := int64(-2); d <= window+2; d++ {
		for m := int64(-2); m <= window+2; m++ {
			if d > most-mark || m > most-mark {
				continue
			}
			for _, text := range texts {
				c := api.Command{Kind: api.CommandCall, Session: 2, Number: mark + d, Mark: max(mark+m, 0), Call: parsedCall(t, text)}
				o := b.copy()
				o.do(t, c)
				o.do(t, c)
			}
		}
	}
	b.check(t)
}

// someCommand is a command that may be, but for a few, mostly about sessions that live and numbers around their marks.
func someCommand(t *testing.T, r *rand.Rand, p *plain) api.Command {
	t.Helper()
	if r.Intn(4) == 0 {
		return api.Command{Kind: api.CommandOpen, Token: int64(r.Intn(9))}
	}
	id := p.next - int64(r.Intn(6))
	if l := p.living(); len(l) > 0 && r.Intn(8) > 0 {
		id = l[r.Intn(len(l))].Id
	}
	if r.Intn(9) == 0 {
		return api.Command{Kind: api.CommandClose + api.CommandKind(r.Intn(2)), Session: id}
	}
	mark := p.sessions[id].mark
	c := api.Command{Kind: api.CommandCall, Session: id, Number: mark + int64(r.Intn(p.window+3)), Call: someCall(t, r)}
	switch r.Intn(4) {
	case 0:
		c.Mark = max(mark+int64(r.Intn(3)-1), 0)
	case 1:
		c.Mark = max(c.Number-int64(r.Intn(3)), 0)
	}
	return c
}

// someCall is a call of one op or of few, on few rows.
func someCall(t *testing.T, r *rand.Rand) api.Call {
	t.Helper()
	var texts []string
	for range 1 + r.Intn(1+r.Intn(4)) {
		table, key, value := string("tu"[r.Intn(2)]), string("abc"[r.Intn(3)]), strings.Repeat("v", 1+r.Intn(4))
		texts = append(texts, []string{
			fmt.Sprintf("get %s %s", table, key), fmt.Sprintf("scan %s %s %% %d", table, key, 1+r.Intn(3)), fmt.Sprintf("put %s %s %s", table, key, value), fmt.Sprintf("put %s %s %s", table, key, value),
			fmt.Sprintf("delete %s %s", table, key), fmt.Sprintf("swap %s %s - %s", table, key, value), fmt.Sprintf("swap %s %s +v %s", table, key, value),
		}[r.Intn(7)])
	}
	return parsedCall(t, strings.Join(texts, "; "))
}

// P11.1 to P11.5: any commands to several machines, copies of each other and made of what is told, against the words; what is
// gone over while all of them change stands as it did.
func TestAnyCommands(t *testing.T) {
	count := map[string]int{}
	for seed := range int64(60) {
		r := rand.New(rand.NewSource(1100 + seed))
		s := state{api.Quota{Rows: 1 + r.Intn(6), Bytes: 1 + r.Intn(30)}, 1 + r.Intn(5), "", []int64{1, 1, 1 << 40, lastNext - 4}[r.Intn(4)], ""}
		l := []both{bothOf(t, s)}
		for range 150 {
			a, b := l[r.Intn(len(l))], r.Intn(len(l))
			reply := a.do(t, someCommand(t, r, a.p))
			count[strings.Fields(reply)[0]]++
			count[reply[strings.LastIndex(reply, " ")+1:][:1]]++ // the first letter of an abort
			a.find(t, a.p.next-int64(r.Intn(6)), int64(r.Intn(9)))
			switch r.Intn(15) {
			case 0:
				l = grown(r, l, a.copy())
			case 1:
				l = grown(r, l, both{of2(t, a.m), a.p.copy()})
			case 2:
				changeByTheWay(t, r, l, a)
			}
			l[b].check(t)
			one, other := a.p.see(), l[b].p.see()
			wantSame(t, "two of them", a.m, l[b].m, one == other, one.rows == other.rows)
		}
	}
	for word, least := range map[string]int{"opened": 500, "full": 20, "answered": 1500, "gone": 200, "stale": 100, "ahead": 200, "closed": 100, "error": 50, "o": 200, "r": 50, "b": 50} {
		if count[word] < least {
			t.Errorf("%d times %q: %v", count[word], word, count)
		}
	}
}

// grown has one more, or one instead of another, if there are many.
func grown(r *rand.Rand, l []both, b both) []both {
	if len(l) < 5 {
		return append(l, b)
	}
	l[r.Intn(len(l))] = b
	return l
}

// changeByTheWay goes over the rows and sessions of one machine while it and another one change, and leaves it sometimes.
func changeByTheWay(t *testing.T, r *rand.Rand, l []both, b both) {
	t.Helper()
	change := func() {
		b.do(t, someCommand(t, r, b.p))
		o := l[r.Intn(len(l))]
		o.do(t, someCommand(t, r, o.p))
	}
	want := b.p.living()
	n := 1 + r.Intn(len(want)+2)
	got := firstOf(func(yield func(api.Living) bool) {
		for s := range b.m.All() {
			change()
			if !yield(s) {
				return
			}
		}
	}, n)
	wantText(t, "All by the way", livingText(got), livingText(want[:min(n, len(want))]))
	named := listed(b.p.e.Copy().All())
	var over []api.Named
	for row := range b.m.Rows() {
		over = append(over, row)
		change()
	}
	wantText(t, "Rows by the way", rowsText(over), rowsText(named))
}
