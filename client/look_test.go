package client_test

import (
	"fmt"
	"math"
	"slices"
	"testing"

	"wicket/api"
	"wicket/client"
)

// P18.5: each look, at each of a client's times.
func TestLooks(t *testing.T) {
	k := made(t, 5, work(2, 9, 5))
	wantLooks(t, k, 0, 6, 0)
	do(k, "invoke get t k")
	do(k, "step 0")
	wantLooks(t, k, 0, 6, 0, api.Sent{Id: 1})
	do(k, "opened 6 9")
	wantLooks(t, k, 9, 6, 0, api.Sent{Id: 1})
	do(k, "invoke wrong")
	do(k, "invoke get t k")
	do(k, "invoke get t k")
	do(k, "step 3")
	wantLooks(t, k, 9, 6, 0, api.Sent{Id: 1, Number: 1, At: 3}, api.Sent{Id: 3, Number: 2, At: 3}, api.Sent{Id: 4})
	do(k, "answered 9 1")
	wantLooks(t, k, 9, 6, 1, api.Sent{Id: 3, Number: 2, At: 3}, api.Sent{Id: 4})
	do(k, "step 9")
	wantLooks(t, k, 9, 6, 1, api.Sent{Id: 3, Number: 2, At: 9}, api.Sent{Id: 4, Number: 3, At: 9})
	do(k, "answered 9 3")
	wantLooks(t, k, 9, 6, 1, api.Sent{Id: 3, Number: 2, At: 9})
	do(k, "stale 9 2")
	wantLooks(t, k, 9, 6, 3)
	do(k, "leave")
	wantLooks(t, k, 0, 14, 0)
	do(k, "invoke get t k")
	wantLooks(t, k, 0, 14, 0, api.Sent{Id: 5})
}

func wantLooks(t *testing.T, k *client.Client, session, token, mark int64, open ...api.Sent) {
	t.Helper()
	for range 2 { // a look changes nothing
		if s, has := k.Session(); s != session || has != (session != 0) {
			t.Errorf("Session: %d, %t", s, has)
		}
		if k.Token() != token || k.Mark() != mark || k.Number() != 5 {
			t.Errorf("Token %d, Mark %d, Number %d; want %d, %d, 5", k.Token(), k.Mark(), k.Number(), token, mark)
		}
		if l := k.Open(); !slices.Equal(l, open) || (len(l) == 0) != (l == nil) {
			t.Errorf("Open: %v, want %v", l, open)
		}
	}
}

// P18.5: a copy is as its client, and goes on apart, in each of a client's times.
func TestCopyGoesOnApart(t *testing.T) {
	stories := [][]string{
		{}, {"invoke get t k"}, {"invoke get t k", "step 3"}, {"step 3", "invoke get t k", "step 3", "leave"}, {"opened 1 9", "invoke get t k", "invoke put t a 1", "invoke get t b"},
		{"opened 1 9", "invoke get t k", "invoke put t a 1", "invoke get t b", "step 3"}, {"opened 1 9", "invoke get t k", "invoke put t a 1", "invoke get t b", "step 3", "answered 9 2"},
		{"opened 1 9", "invoke get t k", "invoke put t a 1", "invoke get t b", "step 3", "gone 9 1"},
	}
	more := []string{"invoke put t z 1", "step 3", "step 8", "opened 1 9", "opened 9 9", "answered 9 1", "stale 9 1", "gone 9 0", "leave", "invoke get t k", "step 9", "opened 17 4", "step 20"}
	for _, story := range stories {
		for _, first := range more {
			k := made(t, 0, work(2, 9, 5))
			for _, line := range story {
				do(k, line)
			}
			c, still := k.Copy(), see(k)
			if got := see(c); got != still {
				t.Errorf("%q: a copy is %s, want %s", story, got, still)
			}
			ways := []string{first, "invoke put t y 2", "step 30", "opened 9 5", "invoke get t x", "step 40"}
			var told []string
			for _, line := range ways {
				told = append(told, do(c, line))
			}
			if got := see(k); got != still {
				t.Errorf("%q: behind its copy's %s: %s, was %s", story, first, got, still)
			}
			for i, line := range ways {
				if got := do(k, line); got != told[i] {
					t.Errorf("%q, then %q: %s: %q, its copy said %q", story, first, line, got, told[i])
				}
			}
			if see(k) != see(c) {
				t.Errorf("%q, then %q: %s, its copy is %s", story, first, see(k), see(c))
			}
		}
	}
}

// P18.5: calls that are invoked of a client and of its copy do not meet, though both have waiting ones.
func TestCopiesInvokeApart(t *testing.T) {
	k := made(t, 0, work(9, 20, 5))
	for n := range 9 {
		c := k.Copy()
		d := c.Copy()
		do(k, fmt.Sprint("invoke put t a ", n))
		do(c, "invoke put t b 1")
		do(d, "invoke put t c 1")
		d.Hear(tells(0, reply("opened 1 9")))
		c.Hear(tells(0, reply("opened 1 9")))
		want := ""
		for i := range n {
			want += fmt.Sprint("0: call 9 ", i+1, " 0 put t a ", i, " | ")
		}
		play(t, c, "step 1", want+fmt.Sprint("0: call 9 ", n+1, " 0 put t b 1"))
		play(t, d, "step 1", want+fmt.Sprint("0: call 9 ", n+1, " 0 put t c 1"))
	}
}

// P18.1 to P18.5: of a client that is not there, and of a zero one.
func TestNoClient(t *testing.T) {
	var none *client.Client
	refused, _ := client.New(8, work(2, 3, 5))
	for name, k := range map[string]*client.Client{"nil": none, "zero": {}, "new": new(client.Client), "refused": refused, "a copy of nil": none.Copy(), "a copy of a zero one": new(client.Client).Copy()} {
		t.Run(name, func(t *testing.T) {
			for range 2 {
				nothingIsDone(t, k)
				if s, has := k.Session(); s != 0 || has || k.Token() != 0 || k.Mark() != 0 || k.Open() != nil || k.Number() != 0 {
					t.Errorf("it is there: %s", see(k))
				}
				if k.Copy() != nil {
					t.Error("its copy is there")
				}
			}
		})
	}
}

func nothingIsDone(t *testing.T, k *client.Client) {
	t.Helper()
	for _, c := range []api.Call{{}, parsed("get t k"), sized(4097)} {
		if id, what := k.Invoke(c); id != 0 || what != api.OutcomeRejected {
			t.Errorf("Invoke: %d, %s", id, outcome(what))
		}
	}
	for _, now := range []int64{0, 1, -1, math.MinInt64, math.MaxInt64, api.MaxTick, api.MaxTick + 1} {
		if l, e := k.Step(now); l != nil || e != api.ErrNil {
			t.Errorf("Step(%d): %v, %v", now, l, e)
		}
	}
	for _, words := range []string{"opened 1 1", "gone 1 0", "answered 1 1", "stale 1 1", "full 1"} {
		if l := k.Hear(tells(0, reply(words))); l != nil {
			t.Errorf("Hear of %s: %v", words, l)
		}
	}
	if sent, returned := k.Leave(); sent != nil || returned != nil {
		t.Errorf("Leave: %v, %v", sent, returned)
	}
}
