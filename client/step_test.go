package client_test

import (
	"fmt"
	"math"
	"strings"
	"testing"

	"wicket/api"
	"wicket/client"
)

// P18.2: a tick below 0, above MaxTick, or below an elder one's is refused, and nothing changes, the tick neither.
func TestStepTicks(t *testing.T) {
	for _, k := range []*client.Client{made(t, 0, work(2, 9, 5)), play(t, made(t, 0, work(2, 9, 5)), "invoke get t k", "1 open"), play(t, made(t, 0, work(2, 9, 5)), "opened 1 9", "", "invoke get t k", "1 open")} {
		wantTicks(t, k, []int64{-1, -2, math.MinInt64, api.MaxTick + 1, api.MaxTick + 2, math.MaxInt64})
		do(k, "step 3")
		wantTicks(t, k, []int64{2, 1, 0, -1, math.MinInt64, api.MaxTick + 1})
		play(t, k, "step 3", "")
		do(k, "step 4")
		wantTicks(t, k, []int64{3, 2, 0, api.MaxTick + 1})
		do(k, "leave")
		wantTicks(t, k, []int64{3, 0})
		do(k, "invoke get t k")
		wantTicks(t, k, []int64{3, 0})
		c := k.Copy()
		wantTicks(t, c, []int64{3, 0})
		if got := do(c, fmt.Sprint("step ", api.MaxTick)); got == "" || strings.HasPrefix(got, "error") {
			t.Errorf("Step at MaxTick: %q", got)
		}
		wantTicks(t, c, []int64{api.MaxTick - 1, 4, 0, api.MaxTick + 1})
		play(t, c, fmt.Sprint("step ", api.MaxTick), "")
		if got := do(k, "step 4"); got == "" {
			t.Error("a refused tick was taken for one at which it was sent")
		}
	}
}

// wantTicks: Step refuses these ticks, and nothing that is seen changes.
func wantTicks(t *testing.T, k *client.Client, ticks []int64) {
	t.Helper()
	was := see(k)
	for _, now := range ticks {
		if l, e := k.Step(now); l != nil || e != api.ErrArg {
			t.Errorf("Step(%d): %d messages, %v", now, len(l), e)
		}
	}
	if got := see(k); got != was {
		t.Errorf("behind refused ticks: %s, was %s", got, was)
	}
}

// P18.2: without a session the Open is sent if a call is open, and again each Timeout ticks, not ahead of that.
func TestStepAsksForASession(t *testing.T) {
	play(t, made(t, 3, work(2, 9, 5)),
		"step 0", "", "step 9", "", "invoke wrong", "1 rejected", "step 9", "", "invoke large", "2 large", "step 9", "",
		"invoke get t k", "3 open", "step 9", "3: open 4", "step 9", "", "step 10", "", "step 13", "", "step 14", "3: open 4", "step 14", "", "step 18", "", "step 20", "3: open 4",
		"invoke get t k", "4 open", "step 20", "", "step 24", "", "step 25", "3: open 4", "step 1000", "3: open 4", "see", "3: token 4 session 0 mark 0: 3 4")
	play(t, made(t, 0, work(2, 9, 1)), "invoke get t k", "1 open", "step 0", "0: open 1", "step 0", "", "step 1", "0: open 1", "step 1", "", "step 2", "0: open 1")
	far := fmt.Sprint("step ", api.MaxTick)
	play(t, made(t, 0, work(2, 9, api.MaxTick)), "invoke get t k", "1 open", "step 0", "0: open 1", "step 1099511627775", "", far, "0: open 1", far, "")
	play(t, made(t, 0, work(2, 9, api.MaxTick)), "invoke get t k", "1 open", "step 1", "0: open 1", far, "")
}

// P18.2: what the asking waits for is since it was asked with this token, not with the one ahead.
func TestStepAsksWithEachToken(t *testing.T) {
	play(t, made(t, 0, work(2, 9, 5)),
		"invoke get t k", "1 open", "step 3", "0: open 1", "leave", "; ", "step 3", "0: open 9", "step 7", "", "leave", "; ", "step 7", "0: open 17", "step 8", "",
		"opened 17 4", "", "gone 4 0", "", "step 8", "0: open 25", "step 9", "", "opened 25 5", "", "leave", "0: close 5; ", "step 9", "0: open 33", "see", "0: token 33 session 0 mark 0: 1")
}

// P18.2: a session that was not asked for is not asked for; behind it, it is at once.
func TestStepInASessionAsksForNone(t *testing.T) {
	play(t, made(t, 0, work(2, 9, 5)), "opened 1 9", "", "step 0", "", "step 100", "", "invoke get t k", "1 open", "step 100", "0: call 9 1 0 get t k",
		"gone 9 1", "1 unknown", "step 100", "", "invoke get t k", "2 open", "step 100", "0: open 9")
}

// P18.2: numbers are given in the order of invoking, up to the mark and the window, and as the mark goes up.
func TestStepGivesNumbers(t *testing.T) {
	k := ready(t, 3, 20, 5, 8)
	play(t, k, "see", "0: token 1 session 9 mark 0: 1#1@7 2#2@7 3#3@7 4 5 6 7 8", "step 8", "",
		"answered 9 2", "2 result 9 2", "step 8", "", "answered 9 3", "3 result 9 3", "step 8", "", "see", "0: token 1 session 9 mark 0: 1#1@7 4 5 6 7 8",
		"answered 9 1", "1 result 9 1", "see", "0: token 1 session 9 mark 3: 4 5 6 7 8",
		"step 8", "0: call 9 4 3 get t k | 0: call 9 5 3 get t k | 0: call 9 6 3 get t k", "answered 9 4", "4 result 9 4", "answered 9 6", "6 result 9 6",
		"invoke put t k v", "9 open", "step 9", "0: call 9 7 4 get t k", "see", "0: token 1 session 9 mark 4: 5#5@8 7#7@9 8 9",
		"answered 9 5", "5 result 9 5", "step 9", "0: call 9 8 6 get t k | 0: call 9 9 6 put t k v", "see", "0: token 1 session 9 mark 6: 7#7@9 8#8@9 9#9@9")
}

// P18.2: each window, from 1 to MaxWindow, with more calls open than it lets have numbers.
func TestStepGivesAsManyNumbersAsTheWindow(t *testing.T) {
	for window := 1; window <= api.MaxWindow; window++ {
		k := made(t, 0, work(window, 70, 5))
		do(k, "opened 1 9")
		for range 70 {
			do(k, "invoke get t k")
		}
		for _, ahead := range []int64{0, 1} {
			l, e := k.Step(3)
			first := int64(1)
			if ahead == 1 {
				first = int64(window) + 1
			}
			if e != api.OK || len(l) != window-int(first)+1+int(ahead) {
				t.Fatalf("window %d, mark %d: %d are sent, %v", window, ahead, len(l), e)
			}
			for i, m := range l {
				if m.Ask.Number != first+int64(i) || m.Ask.Mark != ahead || m.Ask.Session != 9 {
					t.Errorf("window %d, mark %d: %v is sent", window, ahead, m)
				}
			}
			do(k, "answered 9 1")
		}
	}
}

// P18.2: what was sent is sent again behind Timeout ticks, each by itself, by rising numbers, with the mark of that time.
func TestStepSendsAgain(t *testing.T) {
	k := ready(t, 4, 20, 5, 2)
	play(t, k, "step 11", "", "step 12", "0: call 9 1 0 get t k | 0: call 9 2 0 get t k", "step 12", "", "see", "0: token 1 session 9 mark 0: 1#1@12 2#2@12",
		"invoke put t a 1", "3 open", "step 14", "0: call 9 3 0 put t a 1", "step 16", "", "answered 9 1", "1 result 9 1",
		"invoke put t b 1", "4 open", "step 17", "0: call 9 2 1 get t k | 0: call 9 4 1 put t b 1", "see", "0: token 1 session 9 mark 1: 2#2@17 3#3@14 4#4@17",
		"step 19", "0: call 9 3 1 put t a 1", "step 21", "", "answered 9 2", "2 result 9 2", "step 22", "0: call 9 4 2 put t b 1", "step 24", "0: call 9 3 2 put t a 1",
		"step 100", "0: call 9 3 2 put t a 1 | 0: call 9 4 2 put t b 1", "step 104", "", "answered 9 4", "4 result 9 4", "answered 9 3", "3 result 9 3", "step 105", "", "step 200", "")
	play(t, ready(t, 2, 9, 1, 1), "step 7", "", "step 8", "0: call 9 1 0 get t k", "step 8", "")
	play(t, ready(t, 2, 9, api.MaxTick, 1), "step 1099511627775", "", fmt.Sprint("step ", api.MaxTick), "")
	k = made(t, 0, work(2, 9, api.MaxTick))
	play(t, k, "opened 1 9", "", "invoke get t k", "1 open", "step 0", "0: call 9 1 0 get t k", "step 1099511627775", "", fmt.Sprint("step ", api.MaxTick), "0: call 9 1 0 get t k")
}

// P18.2: a call without a number waits till there is one; what was sent at the tick 0 counts as sent.
func TestStepAtTheTickNought(t *testing.T) {
	play(t, made(t, 0, work(1, 9, 5)), "invoke get t k", "1 open", "invoke get t k", "2 open", "step 0", "0: open 1", "step 0", "", "step 4", "", "opened 1 9", "", "step 4", "0: call 9 1 0 get t k")
	play(t, made(t, 0, work(1, 9, 5)), "opened 1 9", "", "invoke get t k", "1 open", "invoke get t a", "2 open", "step 0", "0: call 9 1 0 get t k", "see", "0: token 1 session 9 mark 0: 1#1@0 2",
		"step 0", "", "step 4", "", "answered 9 1", "1 result 9 1", "step 4", "0: call 9 2 1 get t a")
}

// P18.2: each client's messages say whose they are.
func TestStepOfEachClient(t *testing.T) {
	for number := range api.MaxClients {
		k := made(t, number, work(2, 9, 5))
		token := number + 1
		play(t, k, "invoke get t k", "1 open", "step 0", fmt.Sprint(number, ": open ", token), fmt.Sprint("opened ", token, " 9"), "", "step 0", fmt.Sprint(number, ": call 9 1 0 get t k"),
			"leave", fmt.Sprint(number, ": close 9; 1 unknown"), "see", fmt.Sprint(number, ": token ", token+8, " session 0 mark 0:"))
	}
}

// P18.2: sessions of great numbers.
func TestStepInGreatSessions(t *testing.T) {
	for _, session := range []int64{1, 1 << 31, 1 << 62, math.MaxInt64} {
		play(t, made(t, 0, work(2, 9, 5)), "invoke get t k", "1 open", fmt.Sprint("opened 1 ", session), "", "step 0", fmt.Sprint("0: call ", session, " 1 0 get t k"),
			"leave", fmt.Sprint("0: close ", session, "; 1 unknown"))
	}
}
