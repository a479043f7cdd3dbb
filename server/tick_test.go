package server_test

import (
	"fmt"
	"math"
	"strings"
	"testing"

	"wicket/api"
	"wicket/wal"
)

// P19.5: the tick goes on, or stays; it never goes back, nor beyond its bound. Nothing changes where it is refused.
func TestTick(t *testing.T) {
	g := sessions(t, work(9, 1<<40)).play(t, "tick 0", "0", "tick 3", "0", "tick 3", "0")
	still := g.see()
	for _, now := range []int64{2, 0, -1, math.MinInt64, api.MaxTick + 1, math.MaxInt64} {
		g.play(t, fmt.Sprint("tick ", now), "error 2", "see", still)
	}
	g.play(t, fmt.Sprint("tick ", api.MaxTick-1), "0", fmt.Sprint("tick ", api.MaxTick), "2", "see", fmt.Sprintf("3 3 3 waiting 2 reads 0 now %d: 1 open 1, 2 open 2, 3 call 1 1 0 put t a 1", api.MaxTick))
	g.play(t, fmt.Sprint("tick ", api.MaxTick-1), "error 2", fmt.Sprint("tick ", api.MaxTick), "0")
}

// P19.5: an Expire behind Idle ticks, not ahead of that, of each Idle; of a session that was opened, at the tick at which its
// entry was done.
func TestExpire(t *testing.T) {
	for _, idle := range []int64{1, 2, 5, 1000} {
		for _, opened := range []int64{0, 1, 7} {
			g := newRig(t, work(9, idle)).play(t, "take 0: open 1", "", "write", "1", "sync", "ok", fmt.Sprint("tick ", opened), "0", "do", "0: opened 1 1")
			late := opened + idle
			g.play(t, fmt.Sprint("tick ", late-1), "0", fmt.Sprint("tick ", late), "1", "see", fmt.Sprintf("1 1 1 waiting 1 reads 0 now %d: 1 open 1", late))
			g.play(t, "write", "1", "sync", "ok", "do", "", "see", fmt.Sprintf("2 2 2 waiting 0 reads 0 now %d: 1 open 1, 2 expire 1", late), fmt.Sprint("tick ", late+idle), "0")
			if g.s.State().Live(1) {
				t.Error("the session lives")
			}
		}
		g := newRig(t, work(9, idle)).enter(t, "0: open 1", "0: opened 1 1")
		g.play(t, fmt.Sprint("tick ", 3*idle), "1")
	}
}

// late lets it be that tick, writes what waits then, and tells of which sessions Expires are written by that.
func (g *rig) late(t testing.TB, now int64) string {
	t.Helper()
	at, _ := g.s.At()
	many, e := g.s.Tick(now)
	if e != api.OK {
		t.Errorf("Tick(%d): %v", now, e)
	}
	g.s.Write()
	l, e := wal.Scan(g.d)
	if e != api.OK {
		t.Fatal(e)
	}
	var words []string
	for _, n := range l.Entries {
		if n.Number > at.Written && n.Command.Kind == api.CommandExpire {
			words = append(words, fmt.Sprint(n.Command.Session))
		}
	}
	if many != len(words) {
		t.Errorf("Tick(%d): %d, but %d are written", now, many, len(words))
	}
	return strings.Join(words, " ")
}

func (g *rig) wantLate(t testing.TB, now int64, want string) {
	t.Helper()
	if got := g.late(t, now); got != want {
		t.Errorf("Expires at the tick %d: %q, want %q", now, got, want)
	}
}

// P19.5: what lets a session be heard: each Call with it that is taken, from any client, of any number, one that only reads, too.
func TestHeard(t *testing.T) {
	for _, text := range []string{"0: call 1 1 0 put t a 1", "0: call 1 2 1 put t a 2", "0: call 1 60 59 put t a 2", "0: call 1 9 8 delete t a", "7: call 1 3 0 get t a", "3: call 1 1 0 scan t % % 9"} {
		g := sessions(t, work(9, 5)).play(t, "tick 3", "0")
		g.s.Take(asks(text))
		g.wantLate(t, 5, "2")
		g.wantLate(t, 7, "")
		g.wantLate(t, 8, "1")
	}
}

// P19.5: what does not: an Open of its token, a Close, a Call with another one, a message that tells.
func TestNotHeard(t *testing.T) {
	for _, text := range []string{"0: open 1", "1: open 2", "0: open 9", "0: close 3", "0: call 3 1 0 get t a", "0: call 3 1 0 put t a 1", "0: close 1"} {
		g := sessions(t, work(9, 5)).play(t, "tick 3", "0")
		g.s.Take(asks(text))
		g.wantLate(t, 5, "1 2")
	}
	g := sessions(t, work(9, 5)).play(t, "tick 3", "0")
	for _, r := range []api.Reply{{Kind: api.ReplyAnswered, Session: 1, Number: 1, Answer: []byte{1, 0}}, {Kind: api.ReplyOpened, Token: 1, Session: 1}} {
		wantTake(t, g, api.Message{Kind: api.MessageTell, Tell: r}, "")
	}
	g.wantLate(t, 5, "1 2")
}

// P19.5: a session that lives already is not opened by an Open of its token that is done, whoever asks for it.
func TestNotHeardByAnOpenThatIsDone(t *testing.T) {
	g := sessions(t, work(9, 5)).play(t, "tick 3", "0").enter(t, "3: open 1", "3: opened 1 1").enter(t, "1: open 3", "1: opened 3 3")
	g.wantLate(t, 5, "1 2")
	g.wantLate(t, 7, "")
	g.wantLate(t, 8, "3")
}

// P19.5: a call that is let go, as the queue is full, was taken: the session was heard.
func TestHeardThoughLetGo(t *testing.T) {
	g := sessions(t, work(1, 5)).play(t, "tick 3", "0", "take 0: open 1", "", "take 0: call 1 2 0 put t b 1", "", "write", "1", "sync", "ok",
		"take 0: call 1 3 0 get t b", "", "take 0: call 2 3 0 get t b", "")
	g.wantLate(t, 5, "")
	g.wantLate(t, 8, "1")
	g.wantLate(t, 8, "2")
}

// P19.5: a Call that is done, or a read that is told, later than it was taken, does not count then.
func TestHeardWhenTaken(t *testing.T) {
	g := sessions(t, work(9, 5)).play(t, "tick 3", "0", "take 0: call 1 2 0 put t b 1", "", "write", "1", "sync", "ok", "take 0: call 2 1 0 get t b", "", "tick 4", "0", "do", "0: answered 1 2 - | 0: answered 2 1 +1")
	g.wantLate(t, 7, "")
	g.wantLate(t, 8, "1 2")
}

// P19.5: coming up lets all sessions that live be heard, at that tick.
func TestHeardWhenItCameUp(t *testing.T) {
	for keep := range 4 {
		g := sessions(t, work(9, 5)).enter(t, "0: open 3", "0: opened 3 3").enter(t, "0: close 2", "0: closed 2").play(t, fmt.Sprint("keep ", keep), "ok", "tick 4", "0", "take 0: call 1 2 0 get t a", "0: answered 1 2 +1", "stop 0", "ok", "up 2", "ok")
		g.wantLate(t, 6, "")
		g.wantLate(t, 7, "1 3")
	}
}

// P19.5: no second Expire, as long as one waits, or is written and not done, whether it lasts or not; whatever is heard since.
func TestOneExpireEach(t *testing.T) {
	g := sessions(t, work(9, 5)).play(t, "tick 5", "2", "tick 5", "0", "tick 20", "0", "write", "2", "tick 30", "0", "sync", "ok", "tick 40", "0", "take 0: call 2 1 0 get t a", "", "tick 50", "0",
		"do", "", "tick 60", "0", "do", "0: gone 2 1", "tick 70", "0", "see", "5 5 5 waiting 0 reads 0 now 70: 1 open 1, 2 open 2, 3 call 1 1 0 put t a 1, 4 expire 1, 5 expire 2")
	g.play(t, "take 0: open 1", "", "write", "1", "sync", "ok", "do", "0: opened 1 3", "tick 74", "0", "tick 75", "1")
}

// P19.5: an Expire that waits goes on, though the session is heard then, or is closed.
func TestExpireGoesOn(t *testing.T) {
	sessions(t, work(9, 5)).play(t, "take 3: close 1", "", "tick 5", "2", "take 0: call 2 1 0 put t a 2", "", "write", "4", "sync", "ok",
		"do", "3: closed 1", "tick 90", "0", "do", "", "do", "", "do", "0: gone 2 1", "tick 99", "0", "see",
		"7 7 7 waiting 0 reads 0 now 99: 1 open 1, 2 open 2, 3 call 1 1 0 put t a 1, 4 close 1, 5 expire 1, 6 expire 2, 7 call 2 1 0 put t a 2")
}

// P19.5: by rising numbers, behind what waits, as far as there is room; the others get theirs at a later tick.
func TestExpiresUpToTheQueue(t *testing.T) {
	for queue := 1; queue < 9; queue++ {
		for waiting := range queue + 1 {
			c := work(queue, 5)
			g := newRig(t, c)
			for i := range 4 {
				g.enter(t, fmt.Sprint("0: open ", i+1), fmt.Sprint("0: opened ", i+1, " ", i+1))
			}
			for range waiting {
				g.play(t, "take 7: close 9", "")
			}
			all := []string{"1", "2", "3", "4"}
			many := min(4, queue-waiting)
			g.play(t, "tick 5", fmt.Sprint(many), "tick 5", "0", "see", fmt.Sprintf("4 4 4 waiting %d reads 0 now 5: 1 open 1, 2 open 2, 3 open 3, 4 open 4", waiting+many), "write", fmt.Sprint(waiting+many), "sync", "ok")
			for range waiting {
				g.play(t, "do", "7: gone 9 0")
			}
			for range many {
				g.play(t, "do", "")
			}
			for i, l := range g.s.Entries()[4+waiting:] {
				if l.Command.Kind != api.CommandExpire || fmt.Sprint(l.Command.Session) != all[i] {
					t.Errorf("queue %d, %d wait: %v", queue, waiting, l)
				}
			}
			rest := all[many:]
			for len(rest) > 0 {
				now := min(queue, len(rest))
				g.wantLate(t, 6, strings.Join(rest[:now], " "))
				rest = rest[now:]
			}
			g.wantLate(t, 99, "")
		}
	}
}

// P19.5: of many sessions each as it was heard.
func TestExpireEachAsItWasHeard(t *testing.T) {
	c := work(300, 10)
	c.Log = api.MaxLog
	g := newRig(t, c)
	for i := range 40 {
		g.enter(t, fmt.Sprint("0: open ", i+1), fmt.Sprint("0: opened ", i+1, " ", i+1))
	}
	for now := range 10 {
		g.play(t, fmt.Sprint("tick ", now), "0")
		for i := range 40 {
			if i*7%10 == now {
				g.play(t, fmt.Sprint("take 1: call ", i+1, " 1 0 get t a"), fmt.Sprint("1: answered ", i+1, " 1 -"))
			}
		}
	}
	for now := 10; now < 20; now++ {
		var want []string
		for i := range 40 {
			if i*7%10 == now-10 {
				want = append(want, fmt.Sprint(i+1))
			}
		}
		g.wantLate(t, int64(now), strings.Join(want, " "))
	}
}

// P19.5: a stop lets go of the Expires that wait, and of those that were not synced; of one that is left nothing is told.
func TestExpireAndStop(t *testing.T) {
	for keep, lives := range map[int]bool{0: true, 99: false} {
		g := sessions(t, work(1, 5)).play(t, "tick 5", "1", "write", "1", "tick 5", "1", fmt.Sprint("stop ", keep), "ok", "up 5", "ok")
		if got := g.s.State().Live(1); got != lives || !g.s.State().Live(2) {
			t.Errorf("Stop(%d): the session 1 lives: %t", keep, got)
		}
		g.wantLate(t, 9, "")
		want := "2"
		if lives {
			want = "1"
		}
		g.wantLate(t, 10, want)
	}
}
