package client_test

import (
	"fmt"
	"math"
	"testing"

	"wicket/api"
	"wicket/client"
	"wicket/message"
)

// wantNothing: the message changes nothing that is seen, nor what is sent from then on.
func wantNothing(t *testing.T, k *client.Client, m api.Message) {
	t.Helper()
	was, c := see(k), k.Copy()
	if l := k.Hear(m); l != nil {
		t.Errorf("Hear of %v: %v", m, l)
	}
	if got := see(k); got != was {
		t.Errorf("behind %v: %s, was %s", m, got, was)
	}
	for _, line := range []string{"step 7", "step 8", "step 12", "leave", "step 12"} {
		other := k.Copy()
		if got, want := do(other, line), do(c.Copy(), line); got != want {
			t.Errorf("behind %v: %s: %s, want %s", m, line, got, want)
		}
	}
}

// P18.3: the Opened of its token is its session, whether it has asked, has asked again, or not; another one is not.
func TestHearOpened(t *testing.T) {
	play(t, made(t, 2, work(2, 9, 5)), "opened 3 1", "", "see", "2: token 3 session 1 mark 0:")
	play(t, made(t, 2, work(2, 9, 5)), "invoke get t k", "1 open", "opened 3 1", "", "see", "2: token 3 session 1 mark 0: 1")
	k := play(t, made(t, 2, work(2, 9, 5)), "invoke get t k", "1 open", "step 0", "2: open 3", "step 5", "2: open 3")
	for _, token := range []int64{1, 2, 4, 10, 11, 19, math.MaxInt64} {
		wantNothing(t, k, tells(2, api.Reply{Kind: api.ReplyOpened, Token: token, Session: 7}))
	}
	play(t, k, "opened 3 7", "", "see", "2: token 3 session 7 mark 0: 1")
	// In a session no Opened changes anything: of its token, of another one, with its session, with another one.
	for _, token := range []int64{1, 2, 3, 4, 11} {
		for _, session := range []int64{1, 6, 7, 8, math.MaxInt64} {
			wantNothing(t, k, tells(2, api.Reply{Kind: api.ReplyOpened, Token: token, Session: session}))
		}
	}
	play(t, k, "step 5", "2: call 7 1 0 get t k", "gone 7 0", "1 unknown", "see", "2: token 11 session 0 mark 0:")
	wantNothing(t, k, tells(2, reply("opened 3 7")))
	play(t, k, "opened 11 7", "", "see", "2: token 11 session 7 mark 0:", "invoke get t k", "2 open", "step 5", "2: call 7 1 0 get t k")
}

// P18.3: behind Leave the Opened of the token that was given up comes too late.
func TestHearOpenedOfATokenGivenUp(t *testing.T) {
	k := play(t, made(t, 0, work(2, 9, 5)), "invoke get t k", "1 open", "step 0", "0: open 1", "leave", "; ")
	wantNothing(t, k, tells(0, reply("opened 1 5")))
	play(t, k, "opened 9 6", "", "see", "0: token 9 session 6 mark 0: 1")
}

// P18.3: an Answered of the session, for an open call's number, returns the result; any order, once each.
func TestHearAnswered(t *testing.T) {
	k := ready(t, 4, 9, 5, 5)
	for _, at := range [][2]int64{{9, 5}, {9, 6}, {9, math.MaxInt64}, {8, 1}, {10, 1}, {1, 1}, {math.MaxInt64, 4}} {
		wantNothing(t, k, tells(0, reply(fmt.Sprint("answered ", at[0], " ", at[1]))))
	}
	play(t, k, "answered 9 3", "3 result 9 3", "see", "0: token 1 session 9 mark 0: 1#1@7 2#2@7 4#4@7 5")
	wantNothing(t, k, tells(0, reply("answered 9 3")))
	play(t, k, "answered 9 1", "1 result 9 1", "see", "0: token 1 session 9 mark 1: 2#2@7 4#4@7 5")
	wantNothing(t, k, tells(0, reply("answered 9 1")))
	play(t, k, "answered 9 2", "2 result 9 2", "see", "0: token 1 session 9 mark 3: 4#4@7 5", "answered 9 4", "4 result 9 4", "see", "0: token 1 session 9 mark 4: 5")
	for _, number := range []int64{1, 2, 3, 4, 5} {
		wantNothing(t, k, tells(0, reply(fmt.Sprint("answered 9 ", number))))
	}
	play(t, k, "step 7", "0: call 9 5 4 get t k", "answered 9 5", "5 result 9 5", "see", "0: token 1 session 9 mark 5:")
}

// P18.3: the answer is told byte by byte, whatever result it is, whether it fits what was asked or not.
func TestHearAnswersAsTheyAre(t *testing.T) {
	for _, answer := range []string{"\x00\x01\x00\x00\x00", "\x01\x00", "\x01\x0f", "\x02\x03", "\x03\x01", "\x00\x02\x01\x01v\x00\x00\x00\x00", "\x00\x01\x00\x00\x01\x01k\x01v"} {
		m := tells(0, api.Reply{Kind: api.ReplyAnswered, Session: 9, Number: 1, Answer: []byte(answer)})
		if l := ready(t, 2, 9, 5, 2).Hear(m); len(l) != 1 || l[0].Id != 1 || l[0].Outcome != api.OutcomeResult || string(l[0].Answer) != answer {
			t.Errorf("Hear of % x: %v", answer, l)
		}
	}
}

// P18.3: a Stale of the session, for an open call's number, is Unknown for that one call; the mark goes up by it.
func TestHearStale(t *testing.T) {
	k := ready(t, 3, 9, 5, 4)
	for _, at := range [][2]int64{{9, 4}, {9, 5}, {8, 1}, {10, 2}, {math.MaxInt64, 1}} {
		wantNothing(t, k, tells(0, reply(fmt.Sprint("stale ", at[0], " ", at[1]))))
	}
	play(t, k, "stale 9 2", "2 unknown", "see", "0: token 1 session 9 mark 0: 1#1@7 3#3@7 4")
	wantNothing(t, k, tells(0, reply("stale 9 2")))
	wantNothing(t, k, tells(0, reply("answered 9 2")))
	play(t, k, "stale 9 1", "1 unknown", "see", "0: token 1 session 9 mark 2: 3#3@7 4", "step 7", "0: call 9 4 2 get t k", "answered 9 3", "3 result 9 3")
	wantNothing(t, k, tells(0, reply("stale 9 3")))
}

// P18.3: a Gone of the session, whatever its number, is Unknown for all calls that have numbers; the others stay.
func TestHearGone(t *testing.T) {
	for _, number := range []int64{0, 1, 2, 3, 4, 5, math.MaxInt64} {
		k := ready(t, 3, 9, 5, 5)
		for _, session := range []int64{1, 8, 10, math.MaxInt64} {
			wantNothing(t, k, tells(0, reply(fmt.Sprint("gone ", session, " ", number))))
		}
		play(t, k, "answered 9 2", "2 result 9 2", fmt.Sprint("gone 9 ", number), "1 unknown, 3 unknown", "see", "0: token 9 session 0 mark 0: 4 5")
		wantNothing(t, k, tells(0, reply(fmt.Sprint("gone 9 ", number))))
		play(t, k, "step 7", "0: open 9", "opened 9 10", "", "step 7", "0: call 10 1 0 get t k | 0: call 10 2 0 get t k", "see", "0: token 9 session 10 mark 0: 4#1@7 5#2@7",
			"answered 9 1", "", "answered 10 1", "4 result 10 1", "gone 10 2", "5 unknown", "see", "0: token 17 session 0 mark 0:")
	}
	play(t, made(t, 0, work(2, 9, 5)), "opened 1 9", "", "gone 9 0", "", "see", "0: token 9 session 0 mark 0:")
}

// P18.3: without a session nothing but an Opened changes anything, whatever its numbers.
func TestHearWithoutASession(t *testing.T) {
	left := play(t, ready(t, 2, 9, 5, 3), "leave", "0: close 9; 1 unknown, 2 unknown")
	asking := play(t, made(t, 0, work(2, 9, 5)), "invoke get t k", "1 open", "step 0", "0: open 1")
	for _, k := range []*client.Client{made(t, 0, work(2, 9, 5)), asking, left} {
		for _, kind := range []string{"answered", "stale", "gone", "ahead"} {
			for _, session := range []int64{1, 2, 9, math.MaxInt64} {
				for _, number := range []int64{1, 2, 3} {
					wantNothing(t, k, tells(0, reply(fmt.Sprint(kind, " ", session, " ", number))))
				}
			}
		}
		for _, words := range []string{"full 1", "full 9", "closed 9", "closed 1", "gone 9 0"} {
			wantNothing(t, k, tells(0, reply(words)))
		}
	}
}

// P18.3: Full, Ahead and Closed change nothing, of its token, its session and an open number too.
func TestHearWhatChangesNothing(t *testing.T) {
	k := ready(t, 2, 9, 5, 3)
	for _, words := range []string{"full 1", "full 2", "full 9", "ahead 9 1", "ahead 9 2", "ahead 9 3", "ahead 8 1", "closed 9", "closed 8"} {
		wantNothing(t, k, tells(0, reply(words)))
	}
}

// harmed are messages that, but for one thing, would let the call with the number 1 return, or the session be gone or there.
func harmed(number int) []api.Message {
	var l []api.Message
	for _, words := range []string{"answered 9 1", "stale 9 1", "gone 9 1", "opened 1 9"} {
		for _, change := range []func(m *api.Message){
			func(m *api.Message) { m.Client = number + 1 }, func(m *api.Message) { m.Client = -1 }, func(m *api.Message) { m.Client = number + 256 }, func(m *api.Message) { m.Client = 8 },
			func(m *api.Message) { m.Kind = api.MessageAsk }, func(m *api.Message) { m.Kind = 0 }, func(m *api.Message) { m.Kind = 3 }, func(m *api.Message) { m.Kind = -1 },
			func(m *api.Message) { m.Ask.Kind = api.CommandOpen }, func(m *api.Message) { m.Ask.Token = 1 }, func(m *api.Message) { m.Ask.Mark = 1 },
			func(m *api.Message) { m.Ask = api.Command{Kind: api.CommandClose, Session: 9} }, func(m *api.Message) { m.Ask.Call = parsed("get t k") },
			func(m *api.Message) { m.Tell.Kind = 0 }, func(m *api.Message) { m.Tell.Kind = 8 }, func(m *api.Message) { m.Tell.Kind += 256 }, func(m *api.Message) { m.Tell.Kind = -m.Tell.Kind },
			func(m *api.Message) { m.Tell.Session = 0 }, func(m *api.Message) { m.Tell.Session = -9 },
			func(m *api.Message) { m.Tell.Number = -1 }, func(m *api.Message) { m.Tell.Token = -1 },
			func(m *api.Message) { m.Tell.Answer = append(m.Tell.Answer, 0) }, func(m *api.Message) { m.Tell.Answer = append(m.Tell.Answer, "\x00\x01"...) },
		} {
			m := tells(number, reply(words))
			change(&m)
			l = append(l, m)
		}
	}
	for _, wrong := range []api.Reply{
		{Kind: api.ReplyAnswered, Session: 9, Number: 1}, {Kind: api.ReplyAnswered, Session: 9, Number: 1, Answer: []byte{4, 0}}, {Kind: api.ReplyAnswered, Session: 9, Number: 1, Answer: []byte{1, 16}},
		{Kind: api.ReplyAnswered, Session: 9, Number: 1, Token: 1, Answer: answer(9, 1)}, {Kind: api.ReplyGone, Session: 9, Token: 1}, {Kind: api.ReplyStale, Session: 9, Number: 1, Token: 1},
		{Kind: api.ReplyOpened, Token: 1, Session: 9, Number: 1}, {Kind: api.ReplyOpened, Token: 1}, {Kind: api.ReplyOpened, Session: 9}, {Kind: api.ReplyStale, Session: 9}, {Kind: api.ReplyAnswered, Session: 9, Answer: answer(9, 1)}, {},
	} {
		l = append(l, tells(number, wrong))
	}
	return append(l, api.Message{})
}

// P18.3: one that asks, one to another client, one that may not be: nothing.
func TestHearWrongMessages(t *testing.T) {
	asking := play(t, made(t, 0, work(2, 9, 5)), "invoke get t k", "1 open", "step 0", "0: open 1")
	for _, k := range []*client.Client{ready(t, 2, 9, 5, 3), asking} {
		for _, m := range harmed(0) {
			if m.Kind == api.MessageTell && m.Client == 0 && message.Check(m) == api.OK {
				t.Fatalf("%v may be", m)
			}
			wantNothing(t, k, m)
		}
		for _, m := range []api.Command{{Kind: api.CommandOpen, Token: 1}, {Kind: api.CommandClose, Session: 9}, {Kind: api.CommandCall, Session: 9, Number: 1, Call: parsed("get t k")}} {
			ask, e := message.Ask(0, m)
			if e != api.OK {
				t.Fatal(e)
			}
			wantNothing(t, k, ask)
		}
	}
}

// P18.3: what each client hears is for it alone.
func TestHearOfOtherClients(t *testing.T) {
	for number := range api.MaxClients {
		k := made(t, number, work(2, 9, 5))
		token := fmt.Sprint(number + 1)
		for other := range api.MaxClients {
			if other != number {
				wantNothing(t, k, tells(other, reply("opened "+token+" 9")))
			}
		}
		play(t, k, "invoke get t k", "1 open", "opened "+token+" 9", "", "step 7", fmt.Sprint(number, ": call 9 1 0 get t k"))
		for other := range api.MaxClients {
			if other != number {
				wantNothing(t, k, tells(other, reply("answered 9 1")))
				wantNothing(t, k, tells(other, reply("gone 9 1")))
				wantNothing(t, k, tells(other, reply("stale 9 1")))
			}
		}
		play(t, k, "answered 9 1", "1 result 9 1")
	}
}

// P18.3: in a new session numbers begin with 1, the mark is 0, and what is told of the elder one is not taken for it.
func TestHearInANewSession(t *testing.T) {
	play(t, ready(t, 2, 9, 5, 4), "answered 9 1", "1 result 9 1", "answered 9 2", "2 result 9 2", "see", "0: token 1 session 9 mark 2: 3 4", "leave", "0: close 9; ",
		"see", "0: token 9 session 0 mark 0: 3 4", "step 7", "0: open 9", "opened 9 10", "", "see", "0: token 9 session 10 mark 0: 3 4",
		"step 7", "0: call 10 1 0 get t k | 0: call 10 2 0 get t k", "stale 9 1", "", "gone 9 1", "", "answered 9 2", "", "answered 10 2", "4 result 10 2",
		"see", "0: token 9 session 10 mark 0: 3#1@7", "answered 10 1", "3 result 10 1", "see", "0: token 9 session 10 mark 2:")
}
