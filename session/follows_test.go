package session_test

import (
	"math"
	"math/rand"
	"strconv"
	"testing"

	"wicket/api"
	"wicket/session"
)

// past is what a session has said of its numbers so far.
type past struct {
	s      *session.Session
	put    map[int64]string // the answer of each Put that went well
	behind map[int64]bool   // numbers that were stale
	mark   int64
}

// P10.5, P0.2: for each number Put goes well once at most, and Come says VerdictNew only ahead of that.
func (p *past) step(t *testing.T, number, mark int64, answer string) {
	t.Helper()
	v := said(p.s.Come(number, mark))
	_, was := p.put[number]
	if v == "new" && (was || p.behind[number]) {
		t.Errorf("Come(%d, %d): new once more", number, mark)
	}
	p.check(t)
	if e := p.s.Put(number, []byte(answer)); (e == api.OK) != (p.said(number) == "new") {
		t.Errorf("Put(%d): %v", number, e)
	} else if e == api.OK {
		p.put[number] = answer
	}
	p.check(t)
}

// said is what the number must be told by what came so far.
func (p *past) said(number int64) string {
	answer, was := p.put[number]
	switch {
	case number < 1:
		return "error 2"
	case p.behind[number] || number <= p.s.Mark():
		return "stale"
	case was:
		return "answered " + answer
	case number-p.s.Mark() > int64(p.s.Window()):
		return "ahead"
	}
	return "new"
}

// check: the mark has not fallen; there are Window answers at most, each just as it was put; a number that has an answer has
// just that one, until a mark reaches it; from then on it is stale. Of of what is told is the same session.
func (p *past) check(t *testing.T) {
	t.Helper()
	s := p.s
	if s.Mark() < p.mark {
		t.Errorf("the mark is %d, and was %d", s.Mark(), p.mark)
	}
	p.mark = s.Mark()
	for number := range p.put {
		if number <= p.mark {
			p.behind[number] = true
		}
		wantLook(t, s, number, p.said(number))
	}
	l := s.Kept()
	if len(l) > s.Window() {
		t.Errorf("%d answers in a window of %d", len(l), s.Window())
	}
	for i, k := range l {
		if p.said(k.Number) != "answered "+string(k.Answer) || i > 0 && l[i-1].Number >= k.Number {
			t.Errorf("Kept tells %q for %d", k.Answer, k.Number)
		}
	}
	o, e := session.Of(s.Id(), s.Token(), s.Window(), s.Mark(), l...)
	wantErrno(t, "Of of what is told", e, api.OK)
	wantSame(t, "Of of what is told", s, o, true)
	wantSeen(t, "Of of what is told", o, see(s))
}

// P10.5: whatever numbers come, with whatever marks, again and again.
func TestOnce(t *testing.T) {
	put, forgotten := 0, 0
	for seed := range int64(40) {
		r := rand.New(rand.NewSource(1050 + seed))
		window := []int{1, 2, 5, 64}[r.Intn(4)]
		p := past{s: of(t, window, 0, ""), put: map[int64]string{}, behind: map[int64]bool{}}
		for i := range 100 {
			number := p.mark + int64(r.Intn(window+6)) - 3
			mark := int64(r.Intn(3))
			if r.Intn(2) == 0 {
				mark = p.mark + int64(r.Intn(4)) - 1
			}
			p.step(t, number, mark, strconv.Itoa(i))
		}
		put, forgotten = put+len(p.put), forgotten+len(p.behind)
		if t.Failed() {
			return
		}
	}
	if put < 500 || forgotten < 300 {
		t.Errorf("only %d answers, %d of them forgotten", put, forgotten)
	}
}

// P10.5: a client that sends each of its calls some times, and a mark up to which all have come back, late and doubled.
func TestOnceWithAClient(t *testing.T) {
	type sent struct{ number, mark int64 }
	for seed := range int64(40) {
		r := rand.New(rand.NewSource(1090 + seed))
		window := 1 + r.Intn(api.MaxWindow)
		s := of(t, window, 0, "")
		done, got := map[int64]int{}, map[int64]string{}
		var way []sent
		mark := int64(0)
		for mark < 300 {
			for _, has := got[mark+1]; has; _, has = got[mark+1] {
				mark++
			}
			way = append(way, sent{mark + 1 + int64(r.Intn(window)), mark}, sent{mark + 1, mark})
			m := way[r.Intn(len(way))]
			v := said(s.Come(m.number, m.mark))
			if v == "new" {
				done[m.number]++
				v = "answered " + strconv.Itoa(len(done))
				wantPut(t, s, m.number, strconv.Itoa(len(done)), api.OK)
			}
			if first, has := got[m.number]; has && v != first && v != "stale" || v == "ahead" {
				t.Fatalf("%d was %q, and is %q", m.number, first, v)
			} else if !has && v != "stale" {
				got[m.number] = v
			}
		}
		for number, times := range done {
			if times != 1 {
				t.Errorf("%d was done %d times", number, times)
			}
		}
	}
}

// P10.5: an answer stays until just the mark that reaches it.
func TestAnswersStayUntilAMarkReachesThem(t *testing.T) {
	for _, from := range []int64{0, 63, 64, most - 70} {
		for number := from + 1; number <= from+6; number++ {
			s := of(t, 6, from, "")
			wantPut(t, s, number, "a", api.OK)
			for mark := from; mark < number; mark++ {
				wantCome(t, s, number, mark, "answered a")
				wantPut(t, s, number, "b", api.ErrFull)
			}
			for mark := number; mark < number+3; mark++ {
				wantCome(t, s, mark+1, mark, "new")
				wantLook(t, s, number, "stale")
				wantPut(t, s, number, "b", api.ErrNone)
				wantCome(t, s, number, number-1, "stale")
			}
		}
	}
}

// P10.5: behind the greatest mark that can come all but the greatest number is stale, and that one is done once.
func TestTheGreatestNumberOnce(t *testing.T) {
	s := of(t, 64, 0, "1=a")
	wantCome(t, s, math.MaxInt64, math.MaxInt64-1, "new")
	wantPut(t, s, math.MaxInt64, "z", api.OK)
	wantPut(t, s, math.MaxInt64, "y", api.ErrFull)
	wantCome(t, s, math.MaxInt64, math.MaxInt64-1, "answered z")
	wantLook(t, s, math.MaxInt64-1, "stale")
	wantLook(t, s, 1, "stale")
	wantKept(t, "at the greatest number", s, 64, math.MaxInt64-1, "9223372036854775807=z")
}
