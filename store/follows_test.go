package store_test

import (
	"fmt"
	"math/rand"
	"slices"
	"strings"
	"testing"

	"wicket/api"
	"wicket/dedup"
	"wicket/disk"
	"wicket/snap"
	"wicket/store"
	"wicket/wal"
)

// past is a store as it should be, apart from it: the texts of all entries from 1 on, and the state of each number of them.
type past struct {
	t      *testing.T
	d      *disk.Disk
	s      *store.Store
	texts  []string
	states []*dedup.Machine // one more than texts

	done, lasting int // so many of the texts
	cut           int // so many of them are gone from the log
	last, spare   string
	steps         int
}

func begin(t *testing.T, capacity int) *past {
	t.Helper()
	d := fresh(t, capacity)
	return &past{t: t, d: d, s: opened(t, d), states: []*dedup.Machine{after()}, last: "none", spare: "none", steps: 1}
}

// next is the texts of commands that fit to the last state there is.
func (p *past) next(r *rand.Rand, many int) []string {
	m := p.states[len(p.states)-1].Copy()
	var l []string
	for range many {
		text := someText(r, m)
		goOn(m, text)
		l = append(l, text)
	}
	return l
}

// someText is a command about few sessions, few rows, and numbers and marks that go up.
func someText(r *rand.Rand, m *dedup.Machine) string {
	id := m.Next() - r.Int63n(min(m.Next(), 4))
	s, _ := m.Session(id)
	number := s.Mark + 1 + int64(r.Intn(m.Window()+1))
	mark := s.Mark + r.Int63n(number-s.Mark)*int64(r.Intn(2))
	ops := []string{"put t a 1", "put t b 2; scan t % % 9", "put u a " + strings.Repeat("v", r.Intn(9)+1), "delete t a; get u a", "swap t b +2 3", "get t b"}
	switch r.Intn(6) {
	case 0, 1:
		return fmt.Sprint("open ", 1+r.Intn(4))
	case 2:
		return fmt.Sprint([]string{"close ", "expire "}[r.Intn(2)], id)
	}
	return fmt.Sprintf("call %d %d %d %s", id, number, mark, ops[r.Intn(len(ops))])
}

func (p *past) size(from, to int) int {
	return len(recs(int64(from)+1, p.texts[from:to]...))
}

func (p *past) write(texts []string) {
	p.t.Helper()
	room, was := p.d.Room(), len(p.texts)
	n, e := p.s.Write(commands(texts...)...)
	for _, text := range texts {
		p.texts = append(p.texts, text)
		if p.size(was, len(p.texts)) > room {
			p.texts = p.texts[:len(p.texts)-1]
			break
		}
		m := p.states[len(p.states)-1].Copy()
		goOn(m, text)
		p.states = append(p.states, m)
	}
	many := len(p.texts) - was
	p.steps += min(many, 1)
	if n != many || e != api.OK {
		p.t.Errorf("Write of %d: %d, %v; want %d", len(texts), n, e, many)
	}
}

func (p *past) sync() {
	p.t.Helper()
	wantErrno(p.t, "Sync", p.s.Sync(), api.OK)
	p.lasting = len(p.texts)
	p.steps++
}

func (p *past) do() {
	p.t.Helper()
	if p.done == p.lasting {
		wantNothingToDo(p.t, p.s, api.ErrNone)
		return
	}
	text := p.texts[p.done]
	reply, _ := p.states[p.done].Copy().Do(parsed(text))
	p.done++
	wantDo(p.t, p.s, fmt.Sprint(p.done, " ", text), replyText(reply))
}

func (p *past) keep(steps int) {
	p.t.Helper()
	wantErrno(p.t, "Keep", p.s.Keep(steps), api.OK)
	state := "has " + snapshot(p.states[p.done], int64(p.done))
	p.steps += min(steps, 2)
	if steps > 0 {
		p.spare = state
	}
	if steps > 1 {
		p.last, p.spare = p.spare, p.last
	}
	if steps == 3 && p.cut < p.done {
		p.cut = p.done
		p.steps++
	}
}

// left is how many entries there are behind Stop(keep): those that last, and those of the others that are whole.
func (p *past) left(keep int) int {
	many := p.lasting
	for many < len(p.texts) && p.size(p.lasting, many+1) <= keep {
		many++
	}
	return many
}

// check: the store and its disk are as they should be.
func (p *past) check(what string) {
	p.t.Helper()
	wantNumbers(p.t, what, p.s, int64(p.done), int64(p.lasting), int64(len(p.texts)))
	wantState(p.t, what, p.s, p.states[p.done])
	wantWaiting(p.t, what, p.s, numbered(int64(p.done)+1, p.texts[p.done:p.lasting]...)...)
	wantDisk(p.t, what, p.d, disked{recs(int64(p.cut)+1, p.texts[p.cut:]...), p.size(p.cut, p.lasting), p.steps, p.last, p.spare})
}

// stops: behind any Stop Open answers OK, with the state of all entries that lasted, and of a beginning of the others.
func (p *past) stops(what string) {
	p.t.Helper()
	for keep := -1; keep <= p.size(p.lasting, len(p.texts))+1; keep++ {
		many := p.left(keep)
		wantTold(p.t, fmt.Sprintf("%s: Stop(%d)", what, keep), p.d.Stop(keep), p.states[many], int64(many), p.size(p.cut, many))
	}
}

// stop goes on behind a stop.
func (p *past) stop(keep int) {
	p.t.Helper()
	many := p.left(keep)
	p.d = p.d.Stop(keep)
	p.steps = 1
	if len(p.d.Log()) > p.size(p.cut, many) {
		p.steps++
	}
	p.s = opened(p.t, p.d)
	p.texts, p.states, p.done, p.lasting = p.texts[:many], p.states[:many+1], many, many
}

// P14.1 to P14.6, P0.3: any steps of any store, with stops wherever there may be some.
func TestHistories(t *testing.T) {
	r := rand.New(rand.NewSource(1461))
	stopped, torn, full, cut := 0, 0, 0, 0
	for range 120 {
		p := begin(t, 60+r.Intn(500))
		for i := range 60 {
			what := fmt.Sprint("step ", i)
			switch r.Intn(12) {
			case 0, 1, 2:
				l := p.next(r, r.Intn(4))
				was := len(p.texts)
				p.write(l)
				if len(p.texts) < was+len(l) {
					full++
				}
			case 3, 4:
				p.sync()
			case 5, 6, 7, 8:
				p.do()
			case 9:
				was := p.cut
				p.keep(r.Intn(4))
				if p.cut > was {
					cut++
				}
			case 10:
				p.stops(what)
			case 11:
				p.stop(r.Intn(80) - 1)
				stopped++
				torn += p.steps - 1
			}
			p.check(what)
			if t.Failed() {
				t.FailNow()
			}
		}
	}
	if stopped < 300 || torn < 50 || full < 50 || cut < 50 {
		t.Errorf("%d stops, %d of them torn; %d times full, %d times cut", stopped, torn, full, cut)
	}
}

// P14.6, P0.3: a stop between any two steps of Keep, then Keep again up to any step, loses nothing.
func TestStopsWithinKeep(t *testing.T) {
	for done := range 5 {
		for first := range 4 {
			for second := range 4 {
				s, d := standing(t, done, 5, 7)
				wantErrno(t, "Keep", s.Keep(first), api.OK)
				for keep := -1; keep <= len(recs(6, story[5:7]...)); keep++ {
					many := 5
					for many < 7 && len(recs(6, story[5:many+1]...)) <= keep {
						many++
					}
					what := fmt.Sprintf("Keep(%d) at %d, Stop(%d), Keep(%d)", first, done, keep, second)
					left := d.Stop(keep)
					up := opened(t, left)
					wantNumbers(t, what, up, int64(many), int64(many), int64(many))
					wantState(t, what, up, after(story[:many]...))
					wantErrno(t, what, up.Keep(second), api.OK)
					good := len(left.Log())
					wantTold(t, what, left.Stop(0), after(story[:many]...), int64(many), good)
					wrote(t, up, story[many:]...)
					wantTold(t, what, left.Stop(good+999), after(story...), int64(len(story)), len(left.Log()))
				}
			}
		}
	}
}

// wantPlain: Look and Open of any disk, as the chapter's words say it, by what layers 12 and 13 tell; it tells whether there is a
// state.
func wantPlain(t testing.TB, what string, d *disk.Disk) bool {
	t.Helper()
	k, m := int64(0), after()
	wrong := api.OK
	if b, has := d.Snapshot(); has {
		m, k, wrong = snap.Get(b, job.Quota, job.Window)
	}
	log, e := wal.Entries(d.Log())
	if wrong != api.OK || e != api.OK {
		wantRefused(t, what, d, job, api.ErrCorrupt)
		return false
	}
	if many := len(log.Entries); many > 0 && (log.Entries[0].Number > k && log.Entries[0].Number != k+1 || log.Entries[many-1].Number < k) {
		wantRefused(t, what, d, job, api.ErrCorrupt)
		return false
	}
	entries := k
	for _, e := range log.Entries {
		if e.Number > k {
			m.Do(e.Command)
			entries++
		}
	}
	wantTold(t, what, d, m, entries, log.Good)
	return true
}

// spoilt is the bytes with one or two places changed, left out, or put in.
func spoilt(r *rand.Rand, s string) string {
	b := []byte(s)
	for range 1 + r.Intn(2) {
		n := r.Intn(len(b) + 1)
		switch {
		case n == len(b) || r.Intn(4) == 0:
			b = slices.Insert(b, n, byte(r.Intn(256)))
		case r.Intn(3) == 0:
			b = slices.Delete(b, n, n+1)
		default:
			b[n] = []byte{byte(r.Intn(256)), byte(r.Intn(5)), b[n] ^ 1}[r.Intn(3)]
		}
	}
	return string(b)
}

// P14.6, P0.6: any disk whatever: a store, or ErrCorrupt. Bytes that are other, in frames that are right or not.
func TestAnyDisk(t *testing.T) {
	r := rand.New(rand.NewSource(1462))
	right, wrong := 0, 0
	for range 6000 {
		k, first, end := r.Intn(6), 1+r.Intn(5), r.Intn(len(story)+1)
		var records []string
		for i := first; i <= end; i++ {
			records = append(records, rec(int64(i), story[i-1]))
		}
		last := snapshot(after(story[:k]...), int64(k))
		switch n := r.Intn(6); {
		case n == 0 && len(records) > 0:
			at := r.Intn(len(records))
			records[at] = framed(1, spoilt(r, records[at][9:]))
		case n == 1 && len(records) > 0:
			at := r.Intn(len(records))
			records[at] = spoilt(r, records[at])
		case n == 2:
			last = framed(2, spoilt(r, last[9:]))
		case n == 3:
			last = spoilt(r, last)
		}
		log := strings.Join(records, "")
		if r.Intn(3) == 0 {
			log = log[:r.Intn(len(log)+1)]
		}
		d := diskOf(t, log, last)
		if r.Intn(4) == 0 {
			d = diskOf(t, log)
		}
		if wantPlain(t, "any disk", d) {
			right++
		} else {
			wrong++
		}
		if t.Failed() {
			t.FailNow()
		}
	}
	if right < 1000 || wrong < 1000 {
		t.Errorf("%d were right, %d wrong", right, wrong)
	}
}

func FuzzAnyDisk(f *testing.F) {
	f.Add([]byte(nil), []byte(nil), false)
	for k := range len(story) {
		f.Add([]byte(recs(1, story...)), []byte(snapshot(after(story[:k]...), int64(k))), true)
		f.Add([]byte(rec(int64(k+1), story[k])[9:]), []byte(snapshot(after(story[:k]...), int64(k))[9:]), true)
	}
	f.Fuzz(func(t *testing.T, log, last []byte, has bool) {
		for _, log := range []string{string(log), framed(1, string(log)), recs(1, story[:2]...) + framed(1, string(log)) + rec(4, story[3])} {
			if !has {
				wantPlain(t, "a log alone", diskOf(t, log))
				continue
			}
			wantPlain(t, "any snapshot", diskOf(t, log, string(last)))
			wantPlain(t, "any body of one", diskOf(t, log, framed(2, string(last))))
		}
	})
}
