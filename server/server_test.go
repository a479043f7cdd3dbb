package server_test

import (
	"fmt"
	"math"
	"strconv"
	"strings"
	"testing"

	"wicket/api"
	"wicket/calls"
	"wicket/command"
	"wicket/dedup"
	"wicket/disk"
	"wicket/message"
	"wicket/server"
	"wicket/snap"
)

const most = 1<<63 - 1 // the greatest number that there is

// work is a job with that queue, and so many ticks of idleness.
func work(queue int, idle int64) api.Config {
	return api.Config{Quota: api.Quota{Rows: 9, Bytes: 900}, Window: 4, Queue: queue, Wait: 9, Timeout: 5, Idle: idle, Log: 1000}
}

// parsed is the command whose text it is; of a text that is none it panics.
func parsed(text string) api.Command {
	c, e := command.Parse(text)
	if e != api.OK {
		panic(text)
	}
	return c
}

func call(text string) api.Call {
	c, e := calls.Parse(text)
	if e != api.OK {
		panic(text)
	}
	return c
}

// asks is the message that a text says: "0: open 1". It may be one that may not be.
func asks(text string) api.Message {
	client, words, _ := strings.Cut(text, ": ")
	n, e := strconv.Atoi(client)
	if e != nil {
		panic(text)
	}
	return api.Message{Kind: api.MessageAsk, Client: n, Ask: parsed(words)}
}

func fresh(t testing.TB, capacity int) *disk.Disk {
	t.Helper()
	d, e := disk.New(capacity)
	if e != api.OK {
		t.Fatal(e)
	}
	return d
}

// diskOf has that log, all of which lasts, and that snapshot, if there is one.
func diskOf(t testing.TB, log string, snapshot ...[]byte) *disk.Disk {
	t.Helper()
	d, e := disk.Of(1000, []byte(log), snapshot...)
	if e != api.OK {
		t.Fatal(e)
	}
	return d
}

// after is the state of these commands, done one behind the other, from nothing, in the job's quota and window.
func after(c api.Config, texts ...string) *dedup.Machine {
	m, e := dedup.New(c.Quota, c.Window)
	if e != api.OK {
		panic(e)
	}
	for _, text := range texts {
		if _, e := m.Do(parsed(text)); e != api.OK {
			panic(text)
		}
	}
	return m
}

// put is the snapshot of a state of so many entries.
func put(m *dedup.Machine, entries int64) []byte {
	b, e := snap.Put(m, entries)
	if e != api.OK {
		panic(e)
	}
	return b
}

// rig is a server, the disk that it is over, or that its stop has left, and its job.
type rig struct {
	s *server.Server
	d *disk.Disk
	c api.Config
}

func up(t testing.TB, d *disk.Disk, c api.Config, now int64) *rig {
	t.Helper()
	s, e := server.New(d, c, now)
	if s == nil || e != api.OK {
		t.Fatalf("New at %d: a server %t, %v", now, s != nil, e)
	}
	return &rig{s: s, d: d, c: c}
}

// newRig is up at the tick 0, over a new disk with as much room as its job says.
func newRig(t testing.TB, c api.Config) *rig {
	t.Helper()
	return up(t, fresh(t, c.Log), c, 0)
}

// says is a result as a text: each answer's value, or its rows, "-" for none; or why it was aborted, and where.
func says(answer []byte) string {
	r, e := calls.ReadResult(answer)
	if e != api.OK {
		return fmt.Sprintf("wrong % x", answer)
	}
	if r.Abort != api.AbortNone {
		return fmt.Sprint("aborted ", int(r.Abort), " at ", r.Place)
	}
	var words []string
	for _, o := range r.Outs {
		s := "-"
		if o.Has {
			s = "+" + string(o.Value)
		}
		for _, row := range o.Rows {
			s += " " + string(row.Key) + "=" + string(row.Value)
		}
		words = append(words, s)
	}
	return strings.Join(words, "; ")
}

func replied(r api.Reply) string {
	switch r.Kind {
	case api.ReplyOpened:
		return fmt.Sprint("opened ", r.Token, " ", r.Session)
	case api.ReplyFull:
		return fmt.Sprint("full ", r.Token)
	case api.ReplyAnswered:
		return fmt.Sprint("answered ", r.Session, " ", r.Number, " ", says(r.Answer))
	case api.ReplyGone:
		return fmt.Sprint("gone ", r.Session, " ", r.Number)
	case api.ReplyStale:
		return fmt.Sprint("stale ", r.Session, " ", r.Number)
	case api.ReplyAhead:
		return fmt.Sprint("ahead ", r.Session, " ", r.Number)
	case api.ReplyClosed:
		return fmt.Sprint("closed ", r.Session)
	}
	return fmt.Sprint("no reply: ", r)
}

// told is what messages tell, as a text: "0: opened 1 1 | 0: closed 1".
func told(l []api.Message) string {
	var words []string
	for _, m := range l {
		if m.Kind != api.MessageTell || message.Check(m) != api.OK {
			words = append(words, fmt.Sprint("wrong: ", m))
			continue
		}
		words = append(words, fmt.Sprint(m.Client, ": ", replied(m.Tell)))
	}
	return strings.Join(words, " | ")
}

// or is what was answered, or the error; beside an error there is to be nothing.
func or(answer string, zero string, e api.Errno) string {
	switch {
	case e == api.OK:
		return answer
	case answer != zero:
		return e.Error() + " and " + answer
	}
	return e.Error()
}

// do does what a line says, and tells what is answered: "take" and a message, "write", "sync", "do", "keep", "tick" and "stop"
// with a number, or "up" at a tick.
func (g *rig) do(line string) string {
	word, rest, _ := strings.Cut(line, " ")
	n, _ := strconv.ParseInt(rest, 10, 64)
	switch word {
	case "take":
		l, e := g.s.Take(asks(rest))
		return or(told(l), "", e)
	case "write":
		many, e := g.s.Write()
		return or(fmt.Sprint(many), "0", e)
	case "sync":
		return or("ok", "ok", g.s.Sync())
	case "do":
		l, e := g.s.Do()
		return or(told(l), "", e)
	case "keep":
		return or("ok", "ok", g.s.Keep(int(n)))
	case "tick":
		many, e := g.s.Tick(n)
		return or(fmt.Sprint(many), "0", e)
	case "stop":
		return g.stop(int(n))
	case "up":
		s, e := server.New(g.d, g.c, n)
		if e == api.OK {
			g.s = s
		}
		return or("ok", "ok", e)
	case "see":
		return g.see()
	}
	panic(line)
}

func (g *rig) stop(keep int) string {
	d, e := g.s.Stop(keep)
	if (d != nil) != (e == api.OK) {
		return fmt.Sprint("a disk ", d != nil, ", ", e)
	}
	if d != nil {
		g.d = d
	}
	return or("ok", "ok", e)
}

// entries are told as texts: "1 open 5, 2 close 1".
func entries(l []api.Entry) string {
	var words []string
	for _, n := range l {
		text, e := command.Text(n.Command)
		if e != api.OK {
			text = fmt.Sprint("wrong: ", n.Command)
		}
		words = append(words, fmt.Sprint(n.Number, " ", text))
	}
	return strings.Join(words, ", ")
}

// see is how the server stands: done, lasting, written, what waits, the reads, the tick; then all entries.
func (g *rig) see() string {
	at, e := g.s.At()
	if e != api.OK && at != (api.ServerAt{}) || (g.s.State() == nil) != (e != api.OK) {
		return fmt.Sprint(at, e, g.s.State() == nil)
	}
	how := fmt.Sprint(at.Done, " ", at.Lasting, " ", at.Written, " waiting ", at.Waiting, " reads ", at.Reads, " now ", at.Now)
	if e != api.OK {
		how = e.Error()
	}
	return how + ": " + entries(g.s.Entries())
}

// play does lines, each with what is answered.
func (g *rig) play(t testing.TB, lines ...string) *rig {
	t.Helper()
	for i := 0; i+1 < len(lines); i += 2 {
		if got := g.do(lines[i]); got != lines[i+1] {
			t.Errorf("%d. %s: %q, want %q", i/2+1, lines[i], got, lines[i+1])
		}
	}
	return g
}

// enter takes a message, and does all that is to be done, up to the entry that it asks for.
func (g *rig) enter(t testing.TB, text, want string) *rig {
	t.Helper()
	return g.play(t, "take "+text, "", "write", "1", "sync", "ok", "do", want)
}

// The chapter's examples.
func TestExamples(t *testing.T) {
	g := newRig(t, work(2, 5)).play(t,
		"take 0: open 1", "", "do", "error 5", "write", "1", "do", "error 5", "sync", "ok", "do", "0: opened 1 1", "do", "error 5",
		"take 0: call 1 1 0 get t k", "0: answered 1 1 -", "take 0: call 9 1 0 get t k", "0: gone 9 1",
		"take 0: close 1", "", "write", "1", "sync", "ok", "take 0: call 1 2 0 get t k", "", "see", "1 2 2 waiting 0 reads 1 now 0: 1 open 1",
		"do", "0: closed 1 | 0: gone 1 2", "tick 4", "0", "tick 3", "error 2",
		"stop 0", "ok", "do", "error 6")
	g.play(t, "up 4", "ok", "see", "2 2 2 waiting 0 reads 0 now 4: ")
}

// bounded is a field of a job, and the most that it may be.
type bounded struct {
	name string
	most int64
	set  func(c *api.Config, n int64)
}

func fields() []bounded {
	return []bounded{
		{"Rows", 4096, func(c *api.Config, n int64) { c.Quota.Rows = int(n) }}, {"Bytes", 1 << 20, func(c *api.Config, n int64) { c.Quota.Bytes = int(n) }},
		{"Window", 64, func(c *api.Config, n int64) { c.Window = int(n) }}, {"Queue", 1024, func(c *api.Config, n int64) { c.Queue = int(n) }},
		{"Wait", 1024, func(c *api.Config, n int64) { c.Wait = int(n) }}, {"Timeout", 1 << 40, func(c *api.Config, n int64) { c.Timeout = n }},
		{"Idle", 1 << 40, func(c *api.Config, n int64) { c.Idle = n }}, {"Log", 1 << 20, func(c *api.Config, n int64) { c.Log = int(n) }},
	}
}

// wantRefused: New answers that error, and no server; the disk stays as it is.
func wantRefused(t *testing.T, what string, d *disk.Disk, c api.Config, now int64, want api.Errno) {
	t.Helper()
	log, sure, steps := string(d.Log()), d.Sure(), d.Steps()
	if s, e := server.New(d, c, now); s != nil || e != want {
		t.Errorf("%s: New at %d: a server %t, %v; want %v", what, now, s != nil, e, want)
	}
	if string(d.Log()) != log || d.Sure() != sure || d.Steps() != steps {
		t.Errorf("%s: the disk has done %d steps, its log is % x", what, d.Steps(), d.Log())
	}
}

// P19.1: each field of the job is from 1 to its bound.
func TestNewJobs(t *testing.T) {
	for _, f := range fields() {
		for _, n := range []int64{1, 2, f.most / 2, f.most - 1, f.most} {
			c := work(2, 5)
			f.set(&c, n)
			up(t, fresh(t, 100), c, 7).play(t, "see", "0 0 0 waiting 0 reads 0 now 7: ").enter(t, "3: open 8", "3: opened 8 1")
		}
		for _, n := range []int64{0, -1, -f.most, math.MinInt64, f.most + 1, 2 * f.most, 1<<62 + 1, most} {
			c := work(2, 5)
			f.set(&c, n)
			wantRefused(t, f.name, fresh(t, 100), c, 0, api.ErrArg)
		}
	}
	wantRefused(t, "no job", fresh(t, 100), api.Config{}, 0, api.ErrArg)
}

// P19.1: the ticks at which it may come up.
func TestNewTicks(t *testing.T) {
	for _, now := range []int64{0, 1, 2, 1 << 32, api.MaxTick - 1, api.MaxTick} {
		up(t, fresh(t, 100), work(2, 5), now).play(t, "see", fmt.Sprintf("0 0 0 waiting 0 reads 0 now %d: ", now), fmt.Sprint("tick ", now), "0", fmt.Sprint("tick ", now-1), "error 2")
	}
	for _, now := range []int64{-1, -2, -api.MaxTick, math.MinInt64, api.MaxTick + 1, 2 * api.MaxTick, most} {
		wantRefused(t, "a wrong tick", fresh(t, 100), work(2, 5), now, api.ErrArg)
	}
}

// P19.1: of several errors, the one that is named first: no disk, a job or a tick that may not be, what the disk has.
func TestNewErrorsInOrder(t *testing.T) {
	corrupt := diskOf(t, "", []byte("wrong"))
	for _, d := range []*disk.Disk{nil, {}, new(disk.Disk)} {
		for _, now := range []int64{0, -1, api.MaxTick + 1} {
			wantRefused(t, "no disk", d, work(2, 5), now, api.ErrNil)
			wantRefused(t, "no disk and no job", d, api.Config{}, now, api.ErrNil)
		}
	}
	for _, now := range []int64{-1, api.MaxTick + 1} {
		wantRefused(t, "a wrong disk and a wrong tick", corrupt, work(2, 5), now, api.ErrArg)
	}
	wantRefused(t, "a wrong disk and no job", corrupt, api.Config{}, 0, api.ErrArg)
	wantRefused(t, "a wrong disk", corrupt, work(2, 5), 0, api.ErrCorrupt)
}

// P19.1: a disk that tells no state, of the job's quota and window among others.
func TestNewCorrupt(t *testing.T) {
	c := work(2, 5)
	right := put(after(c, "open 5"), 1)
	wantRefused(t, "no snapshot", diskOf(t, "", right[:len(right)-1]), c, 0, api.ErrCorrupt)
	for _, f := range fields()[:3] {
		other := c
		f.set(&other, 5)
		wantRefused(t, "another "+f.name, diskOf(t, "", right), other, 0, api.ErrCorrupt)
	}
	g := newRig(t, c).enter(t, "0: open 5", "0: opened 5 1").enter(t, "0: open 6", "0: opened 6 2")
	log := string(g.d.Log())
	wantRefused(t, "entries that do not follow", diskOf(t, log[len(log)/2:]), c, 0, api.ErrCorrupt)
	up(t, diskOf(t, log[len(log)/2:], right), c, 0).play(t, "see", "2 2 2 waiting 0 reads 0 now 0: ")
}

// P19.1: it is up with what the disk tells, whatever of it stands in the snapshot, and what in the log; what is torn is cut off.
func TestNewOfADiskThatHasEntries(t *testing.T) {
	c := work(3, 5)
	texts := []string{"open 5", "call 1 1 0 put t a 1", "open 6", "close 1"}
	g := newRig(t, c)
	for i, want := range []string{"0: opened 5 1", "1: answered 1 1 -", "2: opened 6 2", "3: closed 1"} {
		g.enter(t, fmt.Sprint(i, ": ", texts[i]), want)
	}
	log := string(g.d.Log())
	for k := range 5 {
		var snapshot [][]byte
		if k > 0 {
			snapshot = append(snapshot, put(after(c, texts[:k]...), int64(k)))
		}
		for _, torn := range []string{"", "\x01", "\x01\x00\x00\x00\x04\x01\x02", "torn"} {
			d := diskOf(t, log+torn, snapshot...)
			o := up(t, d, c, 3).play(t, "see", "4 4 4 waiting 0 reads 0 now 3: ", "do", "error 5")
			if string(d.Log()) != log || d.Sure() != len(log) || !o.s.State().Same(after(c, texts...)) {
				t.Errorf("the log is % x, of which %d bytes last", d.Log(), d.Sure())
			}
			o.enter(t, "4: call 2 1 0 get t a; put t a 2", "4: answered 2 1 +1; +").play(t, "see", "5 5 5 waiting 0 reads 0 now 3: 5 call 2 1 0 get t a; put t a 2")
		}
	}
}

// P19.1: it keeps the disk: what it writes is there, and what it has is there at the stop.
func TestNewKeepsTheDisk(t *testing.T) {
	g := newRig(t, work(3, 5))
	if g.d.Steps() != 1 || g.d.Sure() != 0 {
		t.Errorf("%d steps, %d bytes last", g.d.Steps(), g.d.Sure())
	}
	g.play(t, "take 0: open 5", "", "take 0: open 6", "", "write", "2")
	if n := len(g.d.Log()); n != 24 || g.d.Sure() != 0 || g.d.Steps() != 2 {
		t.Errorf("%d bytes, %d last, %d steps", n, g.d.Sure(), g.d.Steps())
	}
	g.play(t, "sync", "ok")
	if g.d.Sure() != 24 || g.d.Steps() != 3 {
		t.Errorf("%d bytes last, %d steps", g.d.Sure(), g.d.Steps())
	}
}
