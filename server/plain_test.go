package server_test

import (
	"fmt"
	"math/rand"
	"slices"
	"strconv"
	"strings"
	"testing"

	"wicket/api"
	"wicket/calls"
	"wicket/dedup"
	"wicket/wal"
)

// thing is a command that waits, or is written, with the client who asked, or -1; or a read that waits for so many entries.
type thing struct {
	client, entries int
	command         api.Command
}

// plain is a server as DOC.md and the chapter say it: all entries that there are, and all that it was told.
type plain struct {
	c              api.Config
	up             bool
	now            int64
	log            []thing // from the entry 1 on
	done, lasting  int
	cut, before    int // so many are gone from the log; so many were done when it came up
	waiting, reads []thing
	heard          [][2]int64 // sessions and ticks
	m              *dedup.Machine
	stopped        string // the entries that it told when it stopped

	told, gone, waited, full, expired, torn, letGo int // what happened, so that a test can say that it did
}

func newPlain(c api.Config) *plain {
	return &plain{c: c, up: true, m: after(c)}
}

func (p *plain) size(from, to int) int {
	var l []api.Entry
	for i := from; i < to; i++ {
		l = append(l, api.Entry{Number: int64(i + 1), Command: p.log[i].command})
	}
	n, e := wal.Size(l...)
	if e != api.OK {
		panic(e)
	}
	return n
}

func onlyReads(c api.Call) bool {
	return !slices.ContainsFunc(c.Ops, func(op api.Op) bool { return op.Kind != api.Get && op.Kind != api.Scan })
}

// read is what a read is told of the state as it is.
func (p *plain) read(r thing) string {
	c := r.command
	if !p.m.Live(c.Session) {
		p.gone++
		return fmt.Sprint(r.client, ": gone ", c.Session, " ", c.Number)
	}
	p.told++
	answer, e := p.m.Read(c.Call)
	if e != api.OK {
		panic(e)
	}
	return fmt.Sprint(r.client, ": answered ", c.Session, " ", c.Number, " ", says(answer))
}

func (p *plain) take(text string) string {
	m := asks(text)
	r := thing{client: m.Client, command: m.Ask, entries: p.lasting}
	if m.Ask.Kind == api.CommandCall {
		p.heard = append(p.heard, [2]int64{m.Ask.Session, p.now})
	}
	if m.Ask.Kind != api.CommandCall || !onlyReads(m.Ask.Call) {
		p.wait(r)
		return ""
	}
	if !p.m.Live(m.Ask.Session) || p.done == p.lasting {
		return p.read(r)
	}
	if len(p.reads) < p.c.Queue {
		p.waited++
		p.reads = append(p.reads, r)
	}
	return ""
}

func (p *plain) wait(w thing) bool {
	if len(p.waiting) >= p.c.Queue {
		p.letGo++
		return false
	}
	p.waiting = append(p.waiting, w)
	return true
}

func (p *plain) write() string {
	many := 0
	for _, w := range p.waiting {
		p.log = append(p.log, w)
		if p.size(p.cut, len(p.log)) > p.c.Log {
			p.log = p.log[:len(p.log)-1]
			p.full++
			break
		}
		many++
	}
	p.waiting = p.waiting[many:]
	return fmt.Sprint(many)
}

func (p *plain) do() string {
	if p.done == p.lasting {
		return "error 5"
	}
	next := p.log[p.done]
	_, had := p.m.Token(next.command.Token)
	reply, e := p.m.Do(next.command)
	if e != api.OK {
		panic(e)
	}
	p.done++
	if reply.Kind == api.ReplyOpened && had != api.OK {
		p.heard = append(p.heard, [2]int64{reply.Session, p.now})
	}
	var words []string
	if next.client >= 0 {
		words = append(words, fmt.Sprint(next.client, ": ", replied(reply)))
	}
	var rest []thing
	for _, r := range p.reads {
		if r.entries <= p.done {
			words = append(words, p.read(r))
		} else {
			rest = append(rest, r)
		}
	}
	p.reads = rest
	return strings.Join(words, " | ")
}

// late: was the session heard last so long ago, and is there no Expire of it?
func (p *plain) late(session int64) bool {
	last := int64(-1)
	for _, h := range p.heard {
		if h[0] == session {
			last = max(last, h[1])
		}
	}
	expires := func(w thing) bool { return w.command.Kind == api.CommandExpire && w.command.Session == session }
	return p.now-last >= p.c.Idle && !slices.ContainsFunc(p.waiting, expires) && !slices.ContainsFunc(p.log[p.done:], expires)
}

func (p *plain) tick(now int64) string {
	p.now = now
	many := 0
	for session := int64(1); session < p.m.Next(); session++ {
		if p.m.Live(session) && p.late(session) && p.wait(thing{client: -1, command: api.Command{Kind: api.CommandExpire, Session: session}}) {
			many++
			p.expired++
		}
	}
	return fmt.Sprint(many)
}

func (p *plain) stop(keep int) string {
	p.stopped = p.entries()
	left := p.lasting
	for left < len(p.log) && p.size(p.lasting, left+1) <= keep {
		left++
	}
	if left < len(p.log) && keep > p.size(p.lasting, left) {
		p.torn++
	}
	p.log, p.up = p.log[:left], false
	return "ok"
}

func (p *plain) comeUp(now int64) string {
	p.up, p.now = true, now
	p.waiting, p.reads, p.heard = nil, nil, nil
	p.m = after(p.c)
	for _, n := range p.log {
		p.m.Do(n.command)
	}
	p.done, p.lasting, p.before = len(p.log), len(p.log), len(p.log)
	for l := range p.m.All() {
		p.heard = append(p.heard, [2]int64{l.Id, now})
	}
	return "ok"
}

func (p *plain) entries() string {
	var l []api.Entry
	for i := p.before; i < p.done; i++ {
		l = append(l, api.Entry{Number: int64(i + 1), Command: p.log[i].command})
	}
	return entries(l)
}

func (p *plain) line(line string) string {
	word, rest, _ := strings.Cut(line, " ")
	n, _ := strconv.ParseInt(rest, 10, 64)
	switch {
	case word == "tick" && (n < p.now || n > 1<<40), word == "up" && (n < 0 || n > 1<<40):
		return "error 2"
	case !p.up && word != "up":
		return "error 6"
	}
	switch word {
	case "take":
		return p.take(rest)
	case "write":
		return p.write()
	case "sync":
		p.lasting = len(p.log)
		return "ok"
	case "do":
		return p.do()
	case "keep":
		if n < 0 || n > 3 {
			return "error 2"
		}
		if n == 3 {
			p.cut = max(p.cut, p.done)
		}
		return "ok"
	case "tick":
		return p.tick(n)
	case "stop":
		return p.stop(int(n))
	case "up":
		return p.comeUp(n)
	}
	panic(line)
}

func (p *plain) see() string {
	if !p.up {
		return "error 6: " + p.stopped
	}
	return fmt.Sprint(p.done, " ", p.lasting, " ", len(p.log), " waiting ", len(p.waiting), " reads ", len(p.reads), " now ", p.now, ": ", p.entries())
}

// both are a server and what the words say of it, and what was done to them.
type both struct {
	g     *rig
	p     *plain
	lines []string
}

func newBoth(t testing.TB, c api.Config) *both {
	t.Helper()
	return &both{g: newRig(t, c), p: newPlain(c)}
}

// check does a line to both. Nothing but a Write, a Sync and a Keep does a step of the disk.
func (b *both) check(t testing.TB, line string) {
	t.Helper()
	b.lines = append(b.lines, line)
	d, steps := b.g.d, b.g.d.Steps()
	if got, want := b.g.do(line), b.p.line(line); got != want {
		t.Fatalf("%q: %q, want %q", b.lines, got, want)
	}
	if got, want := b.g.see(), b.p.see(); got != want {
		t.Fatalf("behind %q: %q, want %q", b.lines, got, want)
	}
	if b.p.up && !b.g.s.State().Same(b.p.m) {
		t.Fatalf("behind %q: another state", b.lines)
	}
	word, _, _ := strings.Cut(line, " ")
	if d.Steps() != steps && (word == "take" || word == "do" || word == "tick" || word == "stop") {
		t.Fatalf("%q does %d steps", b.lines, d.Steps()-steps)
	}
}

// P19.2 to P19.6: each row of three lines, from each of some beginnings, with small queues, a short log and few ticks of idleness.
func TestEachRowOfLines(t *testing.T) {
	lines := []string{
		"take 0: open 5", "take 1: open 6", "take 2: call 1 1 0 put t a 1", "take 3: call 1 2 1 get t a; put t a 22", "take 4: call 1 2 1 get t a", "take 5: call 2 1 0 scan t % % 9", "take 6: close 1",
		"write", "sync", "do", "keep 3", "tick 3", "tick 2", "stop 0", "stop 20", "up 1",
	}
	beginnings := [][]string{
		{}, {"take 0: open 5", "write", "sync"}, {"take 0: open 5", "take 1: open 6", "write", "sync", "do", "take 7: call 1 1 0 put t a 1"},
		{"take 0: open 5", "write", "sync", "do", "tick 2", "write", "take 1: call 1 1 0 get t a"}, {"take 0: open 5", "take 1: open 6", "write", "sync", "do", "do", "take 2: close 1", "write", "sync", "take 3: call 1 1 0 get t a", "take 4: call 2 1 0 get t a"},
		{"take 0: open 5", "write", "sync", "do", "take 0: call 1 1 0 put t a 1", "write", "tick 1", "stop 99", "up 0"},
	}
	for i, queue := range []int{1, 2, 3} {
		c := work(queue, 2)
		c.Log = []int{1000, 60, 36}[i]
		for j, beginning := range beginnings {
			t.Run(fmt.Sprint(queue, " ", j), func(t *testing.T) {
				t.Parallel()
				for row := range len(lines) * len(lines) * len(lines) {
					b := newBoth(t, c)
					for _, line := range beginning {
						b.check(t, line)
					}
					for ; len(b.lines) < len(beginning)+3; row /= len(lines) {
						if line := lines[row%len(lines)]; line != "up 1" || !b.p.up {
							b.check(t, line)
						} else {
							b.check(t, "do")
						}
					}
				}
			})
		}
	}
}

// anyTake is a message about few sessions and rows, with numbers and marks that go up.
func anyTake(r *rand.Rand, p *plain) string {
	id := max(1, p.m.Next()-r.Int63n(5))
	s, _ := p.m.Session(id)
	number := s.Mark + 1 + r.Int63n(int64(p.c.Window)+1)
	if r.Intn(10) == 0 {
		number = 1 + r.Int63n(s.Mark+1)
	}
	mark := r.Int63n(number)
	if r.Intn(3) > 0 {
		mark = min(s.Mark, number-1)
	}
	words := []string{"put t a 1", "put t b 2; scan t % % 9", "put u a " + strings.Repeat("v", r.Intn(9)+1), "delete t a; get u a", "swap t b +2 3", "swap t c - 7; get t c"}
	reads := []string{"get t a", "get t b", "scan t % % 9", "get u a; scan t % % 9", "get t c; get t c"}
	who := fmt.Sprint("take ", r.Intn(8), ": ")
	switch n := r.Intn(12); {
	case n < 3:
		return who + fmt.Sprint("open ", 1+r.Intn(6))
	case n < 4:
		return who + fmt.Sprint("close ", id)
	case n < 8:
		return who + fmt.Sprint("call ", id, " ", number, " ", mark, " ", reads[r.Intn(len(reads))])
	}
	return who + fmt.Sprint("call ", id, " ", number, " ", mark, " ", words[r.Intn(len(words))])
}

func anyLine(r *rand.Rand, p *plain) string {
	if !p.up && r.Intn(3) > 0 {
		return fmt.Sprint("up ", max(0, p.now-int64(r.Intn(20)/19)))
	}
	switch n := r.Intn(100); {
	case n < 40:
		return anyTake(r, p)
	case n < 53:
		return "write"
	case n < 63:
		return "sync"
	case n < 84:
		return "do"
	case n < 90:
		return fmt.Sprint("keep ", []int{0, 1, 2, 3, 3, 3, 3, 4, -1}[r.Intn(9)])
	case n < 98:
		return fmt.Sprint("tick ", p.now+int64(r.Intn(4))-int64(r.Intn(20)/19))
	}
	return fmt.Sprint("stop ", r.Intn(90)-1)
}

// P19.2 to P19.6: any lines, one behind the other, with stops by the way.
func TestAnyLines(t *testing.T) {
	r := rand.New(rand.NewSource(191))
	var all plain
	for range 300 {
		c := work([]int{1, 2, 3, 4, 6, 20}[r.Intn(6)], []int64{1, 3, 8, 20, 100}[r.Intn(5)])
		c.Log = []int{60, 90, 150, 400, 3000}[r.Intn(5)]
		b := newBoth(t, c)
		for range 300 {
			b.check(t, anyLine(r, b.p))
		}
		p := b.p
		all.told, all.gone, all.waited, all.full, all.expired, all.torn, all.letGo = all.told+p.told, all.gone+p.gone, all.waited+p.waited, all.full+p.full, all.expired+p.expired, all.torn+p.torn, all.letGo+p.letGo
	}
	if all.told < 2000 || all.gone < 2000 || all.waited < 1000 || all.full < 1000 || all.expired < 500 || all.torn < 100 || all.letGo < 2000 {
		t.Errorf("%d reads told, %d gone, %d waited; %d times full, %d Expires, %d torn, %d let go", all.told, all.gone, all.waited, all.full, all.expired, all.torn, all.letGo)
	}
}

// A text that tells only reads is one by layer 6, too.
func TestOnlyReads(t *testing.T) {
	for _, text := range []string{"get t a", "scan t % % 9", "get t a; scan t % % 9", "put t a 1", "get t a; put t a 1", "delete t a", "swap t a - 1"} {
		if onlyReads(call(text)) != calls.Reads(call(text)) {
			t.Error(text)
		}
	}
}
