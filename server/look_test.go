package server_test

import (
	"fmt"
	"math"
	"strings"
	"testing"

	"wicket/api"
	"wicket/message"
	"wicket/server"
)

// P19.6: Stop is the disk's: what lasts, and so many bytes of what is written; the disk that it was over stays as it is.
func TestStop(t *testing.T) {
	end := size(t, 4, "call 1 2 0 put t b 2", "close 2")
	for _, keep := range []int{math.MinInt, -1, 0, 1, end / 2, end - 1, end, end + 1, math.MaxInt} {
		g := sessions(t, work(9, 5)).play(t, "take 0: call 1 2 0 put t b 2", "", "take 0: close 2", "", "write", "2", "take 0: close 1", "", "tick 3", "0", "keep 1", "ok")
		was, want := kept(g.d), g.d.Stop(keep)
		d, e := g.s.Stop(keep)
		if e != api.OK || d == g.d || kept(d) != kept(want) || d.Steps() != 0 || kept(g.d) != was {
			t.Errorf("Stop(%d): %v: %s, want %s; it was over %s", keep, e, kept(d), kept(want), kept(g.d))
		}
	}
}

// down is a server that has stopped at the tick 3, with the entries 1 to 3 done, and much of all else.
func down(t *testing.T) *rig {
	t.Helper()
	return sessions(t, work(9, 5)).play(t, "take 3: call 1 2 0 put t b 2", "", "write", "1", "sync", "ok", "take 0: call 1 3 0 get t a", "", "take 0: close 2", "", "write", "1", "take 0: close 1", "", "tick 3", "0", "stop 99", "ok")
}

// P19.6: of a server that has stopped ErrDown, but ahead of that the tick; State is nil, Entries are what they were.
func TestDown(t *testing.T) {
	g := down(t)
	how := "error 6: 1 open 1, 2 open 2, 3 call 1 1 0 put t a 1"
	for range 2 {
		for _, text := range []string{"0: open 1", "0: close 1", "0: call 1 1 0 get t a", "0: call 1 1 0 put t a 1", "0: call 9 1 0 get t a"} {
			g.play(t, "take "+text, "error 6")
		}
		for _, m := range harmed() {
			if l, e := g.s.Take(m); l != nil || e != api.ErrDown {
				t.Errorf("Take: %v, %v", l, e)
			}
		}
		g.play(t, "write", "error 6", "sync", "error 6", "do", "error 6", "keep 0", "error 6", "keep 3", "error 6", "keep 4", "error 6", "keep -1", "error 6", "stop 0", "error 6", "stop -1", "error 6",
			"tick 3", "error 6", "tick 9", "error 6", "tick 4", "error 6", fmt.Sprint("tick ", api.MaxTick), "error 6", "tick 2", "error 2", "tick -1", "error 2", fmt.Sprint("tick ", api.MaxTick+1), "error 2", "see", how)
	}
	if g.d.Steps() != 0 {
		t.Errorf("the disk that was left has done %d steps", g.d.Steps())
	}
}

// P19.6: coming up is another server; the one that has stopped stays down.
func TestUpAgain(t *testing.T) {
	g := down(t)
	elder := g.s
	g.play(t, "up 3", "ok", "see", "5 5 5 waiting 0 reads 0 now 3: ").enter(t, "0: close 1", "0: closed 1").play(t, "see", "6 6 6 waiting 0 reads 0 now 3: 6 close 1")
	(&rig{s: elder}).play(t, "see", "error 6: 1 open 1, 2 open 2, 3 call 1 1 0 put t a 1", "do", "error 6", "tick 3", "error 6", "tick 2", "error 2")
}

// P19.6: all in memory is gone behind a stop: what waited, the reads, who asked.
func TestWhatAStopTakes(t *testing.T) {
	g := down(t).play(t, "up 3", "ok", "do", "error 5", "write", "0", "take 0: call 1 7 0 get t b", "0: answered 1 7 +2", "tick 7", "0", "tick 8", "1", "write", "1", "sync", "ok", "do", "")
	if !g.s.State().Same(after(g.c, "open 1", "open 2", "call 1 1 0 put t a 1", "call 1 2 0 put t b 2", "close 2", "close 1")) {
		t.Error("another state")
	}
}

// P19.6: At counts each of its things.
func TestAt(t *testing.T) {
	for n := range 4 * 4 * 3 * 3 {
		a, b, c, d := n%4, n/4%4, n/16%3, n/48
		g := sessions(t, work(9, 5))
		for range a {
			g.play(t, "take 0: close 7", "", "write", "1")
		}
		g.play(t, "sync", "ok")
		for range b {
			g.play(t, "take 0: close 8", "", "write", "1")
		}
		for range c {
			g.play(t, "take 0: close 9", "")
		}
		for range d {
			g.s.Take(asks("0: call 1 5 0 get t a"))
		}
		if a == 0 {
			d = 0
		}
		want := api.ServerAt{Done: 3, Lasting: 3 + int64(a), Written: 3 + int64(a+b), Waiting: c, Reads: d, Now: 4}
		g.play(t, "tick 4", "0")
		for range 2 {
			if at, e := g.s.At(); at != want || e != api.OK {
				t.Errorf("At: %v, %v; want %v", at, e, want)
			}
		}
	}
}

// P19.6: Entries are those that were done since it came up, not those that only last, or are written; a Keep lets none of them go.
func TestEntries(t *testing.T) {
	g := sessions(t, work(9, 5))
	how := "1 open 1, 2 open 2, 3 call 1 1 0 put t a 1"
	wantEntries(t, g, how)
	g.play(t, "take 0: call 2 1 0 swap t a +1 2; scan t % % 9", "", "take 0: close 1", "", "write", "2", "tick 5", "2")
	wantEntries(t, g, how)
	g.play(t, "sync", "ok", "write", "2")
	wantEntries(t, g, how)
	g.play(t, "do", "0: answered 2 1 +; - a=2", "keep 3", "ok", "do", "0: closed 1", "keep 3", "ok")
	how += ", 4 call 2 1 0 swap t a +1 2; scan t % % 9, 5 close 1"
	wantEntries(t, g, how)
	g.play(t, "stop 0", "ok")
	wantEntries(t, g, how)
	g.play(t, "up 5", "ok")
	wantEntries(t, g, "")
	if l := g.s.Entries(); l != nil {
		t.Errorf("Entries: %v", l)
	}
	g.play(t, "tick 10", "1", "write", "1", "sync", "ok", "do", "")
	wantEntries(t, g, "6 expire 2")
}

func wantEntries(t *testing.T, g *rig, want string) {
	t.Helper()
	for range 2 {
		if got := entries(g.s.Entries()); got != want {
			t.Errorf("Entries: %s, want %s", got, want)
		}
	}
}

// P19.6: State is that of all that is done, no more.
func TestState(t *testing.T) {
	texts := []string{"open 5", "call 1 1 0 put t a 1", "open 6", "call 2 1 0 delete t a; put u b 3", "close 1", "call 1 2 0 put t c 1", "call 2 3 1 put t d 1"}
	g := newRig(t, work(9, 5))
	for _, text := range texts {
		g.play(t, "take 0: "+text, "")
	}
	g.play(t, "write", "7")
	for n := range 8 {
		if !g.s.State().Same(after(g.c, texts[:n]...)) || !g.s.State().Same(g.s.State()) {
			t.Errorf("%d are done: another state", n)
		}
		g.play(t, "sync", "ok")
		g.s.Do()
	}
}

// P19.2 to P19.6: of a server that is not there, of one that New refused, and of a zero one: ErrNil, whatever is handed in, or zero
// answers; and so again.
func TestNoServer(t *testing.T) {
	refused, _ := server.New(nil, work(2, 5), 0)
	noJob, _ := server.New(fresh(t, 9), api.Config{}, 0)
	wrongTick, _ := server.New(fresh(t, 9), work(2, 5), -1)
	corrupt, _ := server.New(diskOf(t, "", []byte("wrong")), work(2, 5), 0)
	for name, s := range map[string]*server.Server{"nil": nil, "refused": refused, "no job": noJob, "a wrong tick": wrongTick, "corrupt": corrupt, "zero": {}, "new": new(server.Server)} {
		g := &rig{s: s}
		for range 2 {
			for _, m := range append(harmed(), asks("0: open 1"), asks("0: close 1"), asks("0: call 1 1 0 get t a"), asks("0: call 1 1 0 put t a 1")) {
				if l, e := s.Take(m); l != nil || e != api.ErrNil {
					t.Errorf("%s: Take of %v: %v, %v", name, m, l, e)
				}
			}
			var lines []string
			for _, line := range strings.Split("write,sync,do,keep -1,keep 0,keep 3,keep 4,tick -1,tick 0,tick 1,tick 1099511627777,stop -1,stop 0,stop 9", ",") {
				lines = append(lines, line, "error 1")
			}
			g.play(t, append(lines, "see", "error 1: ")...)
			if l := s.Entries(); l != nil || s.State() != nil {
				t.Errorf("%s: Entries: %v, State: %v", name, l, s.State())
			}
		}
	}
}

// What is told may be told: each message is one that layer 15 takes, and is the same when it is read from its bytes.
func TestToldMayBe(t *testing.T) {
	g := sessions(t, work(20, 5))
	many := 0
	for _, text := range []string{"0: open 7", "1: open 7", "2: call 1 2 0 put t a 2", "3: call 1 40 0 put t a 2", "4: call 1 5 4 put t a 3", "5: call 1 3 0 put t a 3", "6: call 9 1 0 put t a 3", "7: close 9", "7: close 3"} {
		g.play(t, "take "+text, "")
	}
	g.play(t, "write", "9", "sync", "ok", "take 0: call 2 1 0 get t a; scan t % % 9", "", "take 0: call 1 1 0 get t b", "")
	for {
		l, e := g.s.Do()
		if e != api.OK {
			break
		}
		for _, m := range l {
			b, e := message.Bytes(m)
			back, wrong := message.Read(b)
			if e != api.OK || wrong != api.OK || !message.Same(m, back) {
				t.Errorf("%v: %v, %v", m, e, wrong)
			}
			many++
		}
	}
	if many != 11 {
		t.Errorf("%d are told", many)
	}
}
