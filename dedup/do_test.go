package dedup_test

import (
	"fmt"
	"math"
	"strings"
	"testing"

	"wicket/api"
	"wicket/dedup"
)

// doing is a state, a command, what is told of it, and the state behind it.
type doing struct {
	was        state
	say, reply string
	now        state
}

func wantDoings(t *testing.T, l []doing) {
	t.Helper()
	for _, x := range l {
		m := of(t, x.was)
		wantDo(t, m, x.say, x.reply)
		wantSeen(t, "behind "+x.say+" to "+x.was.String(), m, x.now)
		if !m.Same(of2(t, m)) {
			t.Errorf("behind %s: Of of what is told is another machine", x.say)
		}
	}
}

// of2 is a machine of all that is told of another one.
func of2(t *testing.T, m *dedup.Machine) *dedup.Machine {
	t.Helper()
	o, e := dedup.Of(m.Quota(), m.Window(), listed(m.Rows()), m.Next(), listed(m.All())...)
	if e != api.OK {
		t.Errorf("Of of what is told: %v", e)
	}
	return o
}

// P11.2: the chapter's examples, byte by byte.
func TestExamples(t *testing.T) {
	m, _ := dedup.New(api.Quota{Rows: 2, Bytes: 9}, 2)
	opened := func(token, id int64) api.Reply {
		return api.Reply{Kind: api.ReplyOpened, Token: token, Session: id}
	}
	answered := func(number int64, bytes string) api.Reply {
		return api.Reply{Kind: api.ReplyAnswered, Session: 1, Number: number, Answer: []byte(bytes)}
	}
	for _, x := range []struct {
		say  string
		want api.Reply
	}{
		{"open 5", opened(5, 1)}, {"open 5", opened(5, 1)}, {"open 6", opened(6, 2)},
		{"call 1 1 0 put t a 1", answered(1, "\x00\x01\x00\x00\x00")}, {"call 1 1 0 put t a 1", answered(1, "\x00\x01\x00\x00\x00")},
		{"call 1 4 0 get t a", api.Reply{Kind: api.ReplyAhead, Session: 1, Number: 4}},
		{"call 1 2 1 get t a", answered(2, "\x00\x01\x01\x01\x31\x00")},
		{"call 1 1 0 put t a 9", api.Reply{Kind: api.ReplyStale, Session: 1, Number: 1}},
		{"close 1", api.Reply{Kind: api.ReplyClosed, Session: 1}}, {"close 1", api.Reply{Kind: api.ReplyGone, Session: 1}},
		{"call 1 3 0 get t a", api.Reply{Kind: api.ReplyGone, Session: 1, Number: 3}},
	} {
		got, e := m.Do(parsed(t, x.say))
		if e != api.OK || fmt.Sprint(got) != fmt.Sprint(x.want) {
			t.Errorf("%s: %v, %v, want %v", x.say, got, e, x.want)
		}
	}
	if m.Next() != 3 || m.Live(1) || !m.Live(2) {
		t.Errorf("Next, Live(1), Live(2): %d, %t, %t", m.Next(), m.Live(1), m.Live(2))
	}
	wantDo(t, m, "open 5", "opened 5 3")
	wantSeen(t, "behind the examples", m, state{api.Quota{Rows: 2, Bytes: 9}, 2, "t/a=1", 4, "2/6/0; 3/5/0"})
}

// P11.2: each of the four kinds, to a session that lives, to one that has ended, to one that never was.
func TestEachKind(t *testing.T) {
	was := at(2, "t/a=1", 4, "1/5/0; 3/6/2 3=x")
	wantDoings(t, []doing{
		{was, "open 5", "opened 5 1", was}, {was, "open 6", "opened 6 3", was}, {was, "open 7", "opened 7 4", at(2, "t/a=1", 5, "1/5/0; 3/6/2 3=x; 4/7/0")},
		{was, "call 3 4 0 put t a 2", "answered 3 4 +", at(2, "t/a=2", 4, "1/5/0; 3/6/2 3=x 4=+")},
		{was, "call 2 4 0 put t a 2", "gone 2 4", was}, {was, "call 4 4 3 put t a 2", "gone 4 4", was}, {was, "call 9223372036854775807 1 0 get t a", "gone 9223372036854775807 1", was},
		{was, "close 1", "closed 1", at(2, "t/a=1", 4, "3/6/2 3=x")}, {was, "close 3", "closed 3", at(2, "t/a=1", 4, "1/5/0")}, {was, "close 2", "gone 2", was}, {was, "close 4", "gone 4", was},
		{was, "expire 1", "closed 1", at(2, "t/a=1", 4, "3/6/2 3=x")}, {was, "expire 3", "closed 3", at(2, "t/a=1", 4, "1/5/0")}, {was, "expire 2", "gone 2", was}, {was, "expire 5", "gone 5", was},
		{was, "close 9223372036854775807", "gone 9223372036854775807", was}, {was, "expire 9223372036854775807", "gone 9223372036854775807", was},
		{was, "open 9223372036854775807", "opened 9223372036854775807 4", at(2, "t/a=1", 5, "1/5/0; 3/6/2 3=x; 4/9223372036854775807/0")},
	})
}

// P11.2: a token that a living session has opens nothing; that of one that has ended opens another session, which has nothing
// of the first one.
func TestTokens(t *testing.T) {
	m := of(t, at(2, "", 1, ""))
	wantDo(t, m, "open 5", "opened 5 1")
	wantDo(t, m, "call 1 1 0 put t a 1", "answered 1 1 -")
	wantDo(t, m, "call 1 2 1 put t a 2", "answered 1 2 +")
	for range 3 {
		wantDo(t, m, "open 5", "opened 5 1")
		wantSeen(t, "opened again", m, at(2, "t/a=2", 2, "1/5/1 2=+"))
	}
	for id, end := range map[int64]string{1: "close 1", 2: "expire 2", 3: "close 3"} {
		m := of(t, at(2, "t/a=2", id+1, fmt.Sprintf("%d/5/1 2=x", id)))
		wantDo(t, m, end, fmt.Sprintf("closed %d", id))
		wantSeen(t, "behind "+end, m, at(2, "t/a=2", id+1, ""))
		wantDo(t, m, "open 5", fmt.Sprintf("opened 5 %d", id+1))
		wantSeen(t, "opened behind "+end, m, at(2, "t/a=2", id+2, fmt.Sprintf("%d/5/0", id+1)))
		wantDo(t, m, fmt.Sprintf("call %d 2 1 get t a", id), fmt.Sprintf("gone %d 2", id))
		wantDo(t, m, fmt.Sprintf("call %d 1 0 get t a", id+1), fmt.Sprintf("answered %d 1 +2", id+1))
	}
}

// P11.2: as many sessions as may live, one more, and one that ends and makes room.
func TestFull(t *testing.T) {
	m := of(t, at(1, "", 1, ""))
	for i := int64(1); i <= 256; i++ {
		wantDo(t, m, fmt.Sprintf("open %d", 1000-i), fmt.Sprintf("opened %d %d", 1000-i, i))
		wantDo(t, m, "open 999", "opened 999 1")
	}
	was := see(m)
	for _, token := range []int64{1, 743, 1000, most} {
		wantDo(t, m, fmt.Sprintf("open %d", token), fmt.Sprintf("full %d", token))
		wantSeen(t, "full", m, was)
	}
	for _, id := range []int64{1, 100, 256} {
		wantDo(t, m, fmt.Sprintf("open %d", 1000-id), fmt.Sprintf("opened %d %d", 1000-id, id))
		wantSeen(t, "a token that lives", m, was)
	}
	for _, x := range [][2]string{
		{"close 7", "closed 7"}, {"close 7", "gone 7"}, {"open 743", "opened 743 257"}, {"open 2000", "full 2000"}, {"expire 7", "gone 7"}, {"open 2000", "full 2000"},
		{"expire 256", "closed 256"}, {"open 743", "opened 743 257"}, {"open 2000", "opened 2000 258"}, {"open 2001", "full 2001"},
		{"close 257", "closed 257"}, {"open 743", "opened 743 259"}, {"open 2001", "full 2001"},
	} {
		wantDo(t, m, x[0], x[1])
	}
	if l := listed(m.All()); len(l) != 256 || m.Next() != 260 {
		t.Errorf("%d sessions live, Next is %d", len(l), m.Next())
	}
}

// P11.2: the next session's id at 1, below its greatest, at its greatest: then no session is opened any more, though there is
// room; one that lives is still told.
func TestNextAtItsBounds(t *testing.T) {
	last, one := at(2, "", lastNext, "4611686018427387903/5/0"), at(2, "", lastNext-1, "7/5/0")
	wantDoings(t, []doing{
		{at(2, "", 1, ""), "open 5", "opened 5 1", at(2, "", 2, "1/5/0")},
		{at(2, "", lastNext-2, ""), "open 5", "opened 5 4611686018427387902", at(2, "", lastNext-1, "4611686018427387902/5/0")},
		{at(2, "", lastNext-1, ""), "open 5", "opened 5 4611686018427387903", last},
		{one, "open 6", "opened 6 4611686018427387903", at(2, "", lastNext, "7/5/0; 4611686018427387903/6/0")}, {one, "open 5", "opened 5 7", one},
		{at(2, "", lastNext, ""), "open 5", "full 5", at(2, "", lastNext, "")},
		{last, "open 5", "opened 5 4611686018427387903", last}, {last, "open 6", "full 6", last}, {last, "close 4611686018427387903", "closed 4611686018427387903", at(2, "", lastNext, "")},
		{last, "call 4611686018427387903 1 0 put t a 1", "answered 4611686018427387903 1 -", at(2, "t/a=1", lastNext, "4611686018427387903/5/0 1=-")},
		{last, "close 4611686018427387904", "gone 4611686018427387904", last}, {last, "call 4611686018427387904 1 0 get t a", "gone 4611686018427387904 1", last},
	})
	m := of(t, last)
	wantDo(t, m, "expire 4611686018427387903", "closed 4611686018427387903")
	wantDo(t, m, "open 5", "full 5")
	wantSeen(t, "behind the last one", m, at(2, "", lastNext, ""))
	full := at(2, "", lastNext-1, sessions(256, 1, 1))
	wantDoings(t, []doing{{full, "open 257", "full 257", full}, {full, "open 256", "opened 256 256", full}})
}

// P11.2: a number that is stale, answered, new, ahead, with marks below, at and above the session's.
func TestCall(t *testing.T) {
	was := at(3, "t/a=1", 2, "1/5/4 5=x 7=")
	to := func(mark int64, kept, rows string) state {
		return at(3, rows, 2, strings.TrimRight(fmt.Sprintf("1/5/%d %s", mark, kept), " "))
	}
	wantDoings(t, []doing{
		{was, "call 1 1 0 put t a 2", "stale 1 1", was}, {was, "call 1 4 0 put t a 2", "stale 1 4", was}, {was, "call 1 4 3 put t a 2", "stale 1 4", was}, {was, "call 1 3 2 get t a", "stale 1 3", was},
		{was, "call 1 5 0 put t a 2", "answered 1 5 x", was}, {was, "call 1 5 3 put t a 2", "answered 1 5 x", was}, {was, "call 1 5 4 put t a 2", "answered 1 5 x", was}, {was, "call 1 7 1 put t a 2", "answered 1 7 ", was},
		{was, "call 1 7 5 put t a 2", "answered 1 7 ", to(5, "7=", "t/a=1")}, {was, "call 1 7 6 put t a 2", "answered 1 7 ", to(6, "7=", "t/a=1")},
		{was, "call 1 6 0 put t a 2", "answered 1 6 +", to(4, "5=x 6=+ 7=", "t/a=2")}, {was, "call 1 6 3 put t a 2", "answered 1 6 +", to(4, "5=x 6=+ 7=", "t/a=2")},
		{was, "call 1 6 4 put t a 2", "answered 1 6 +", to(4, "5=x 6=+ 7=", "t/a=2")}, {was, "call 1 6 5 put t a 2", "answered 1 6 +", to(5, "6=+ 7=", "t/a=2")},
		{was, "call 1 8 0 put t a 2", "ahead 1 8", was}, {was, "call 1 8 4 put t a 2", "ahead 1 8", was}, {was, "call 1 8 5 put t a 2", "answered 1 8 +", to(5, "7= 8=+", "t/a=2")},
		{was, "call 1 9 5 put t a 2", "ahead 1 9", to(5, "7=", "t/a=1")}, {was, "call 1 9 6 put t a 2", "answered 1 9 +", to(6, "7= 9=+", "t/a=2")}, {was, "call 1 9 7 put t a 2", "answered 1 9 +", to(7, "9=+", "t/a=2")},
		{was, "call 1 9 8 put t a 2", "answered 1 9 +", to(8, "9=+", "t/a=2")}, {was, "call 1 100 0 put t a 2", "ahead 1 100", was}, {was, "call 1 100 96 put t a 2", "ahead 1 100", to(96, "", "t/a=1")},
		{was, "call 1 100 97 put t a 2", "answered 1 100 +", to(97, "100=+", "t/a=2")}, {was, "call 1 9223372036854775807 4 put t a 2", "ahead 1 9223372036854775807", was},
		{was, "call 1 9223372036854775807 9223372036854775806 delete t a", "answered 1 9223372036854775807 +", to(most-1, "9223372036854775807=+", "")},
		{was, "call 1 9223372036854775807 9223372036854775803 delete t a", "ahead 1 9223372036854775807", to(most-4, "", "t/a=1")},
	})
}

// P11.2: sessions are apart: what comes to one changes no other, and each number is each session's own.
func TestSessionsAreApart(t *testing.T) {
	m := of(t, at(2, "", 1, ""))
	for _, x := range [][2]string{
		{"open 5", "opened 5 1"}, {"open 6", "opened 6 2"}, {"open 7", "opened 7 3"},
		{"call 1 1 0 put t a 1", "answered 1 1 -"}, {"call 2 1 0 put t a 1", "answered 2 1 +"}, {"call 3 2 1 get t a", "answered 3 2 +1"}, {"call 1 1 0 get t a", "answered 1 1 -"},
		{"call 2 3 1 put t a 3", "answered 2 3 +"}, {"call 1 2 0 get t a", "answered 1 2 +3"}, {"call 2 1 0 get t a", "stale 2 1"}, {"close 1", "closed 1"}, {"call 2 3 0 get t a", "answered 2 3 +"},
	} {
		wantDo(t, m, x[0], x[1])
	}
	wantSeen(t, "behind all", m, at(2, "t/a=3", 4, "2/6/1 3=+; 3/7/1 2=+1"))
}

// P11.2: a call that is aborted is one that was done: the same number again is told the same, whatever it would do now.
func TestAborted(t *testing.T) {
	small := api.Quota{Rows: 2, Bytes: 9}
	for _, x := range []struct{ call, answer, free string }{
		{"swap t a +9 5", "other@0", "put t a 9"}, {"get t a; swap t a - 5", "other@1", "delete t a"}, {"put t a 2; put t c 1", "rows@1", "delete t b"}, {"put t a 12345", "bytes@0", "delete t b"},
		{"get t a; get t b; delete t b; put t c 12345678", "bytes@3", "delete t a"},
	} {
		m := of(t, state{small, 3, "t/a=1 t/b=2222", 3, "1/5/0; 2/6/0"})
		want := "answered 1 1 " + x.answer
		wantDo(t, m, "call 1 1 0 "+x.call, want)
		wantSeen(t, "aborted", m, state{small, 3, "t/a=1 t/b=2222", 3, "1/5/0 1=" + x.answer + "; 2/6/0"})
		wantDo(t, m, "call 2 1 0 "+x.free, "answered 2 1 +")
		was := see(m)
		wantDo(t, m, "call 1 1 0 "+x.call, want)
		wantSeen(t, "the same number again", m, was)
		wantDo(t, m, "call 1 1 0 put u z 1", want)
		wantSeen(t, "the same number with another call", m, was)
		if got := said(m.Do(parsed(t, "call 1 2 1 "+x.call))); strings.Contains(got, "@") {
			t.Errorf("%s behind %s: %s", x.call, x.free, got)
		}
		wantDo(t, m, "call 1 1 0 "+x.call, "stale 1 1")
	}
}

// P11.2: a call that only reads, as a command, is answered once, too: the same number again is told what it saw at first.
func TestReadsAsCommands(t *testing.T) {
	m := of(t, at(2, "t/a=1 t/b=2", 3, "1/5/0; 2/6/0"))
	wantDo(t, m, "call 1 1 0 get t a; get t c; scan t % % 9", "answered 1 1 +1,-,-[a=1|b=2]")
	wantSeen(t, "behind a read", m, at(2, "t/a=1 t/b=2", 3, "1/5/0 1=+1,-,-[a=1|b=2]; 2/6/0"))
	wantDo(t, m, "call 2 1 0 put t a 9; delete t b; put t c 3", "answered 2 1 +,+,-")
	wantDo(t, m, "call 1 1 0 get t a; get t c; scan t % % 9", "answered 1 1 +1,-,-[a=1|b=2]")
	wantDo(t, m, "call 1 2 0 get t a; get t c; scan t % % 9", "answered 1 2 +9,+3,-[a=9|c=3]")
	wantDo(t, m, "call 1 3 1 get t a", "answered 1 3 +9")
	wantDo(t, m, "call 1 1 0 get t a", "stale 1 1")
	wantSeen(t, "behind all", m, at(2, "t/a=9 t/c=3", 3, "1/5/1 2=+9,+3,-[a=9|c=3] 3=+9; 2/6/0 1=+,+,-"))
}

// P11.2: windows at their bounds: so many numbers are done, in any order, and one more is ahead.
func TestWindows(t *testing.T) {
	for _, window := range []int64{1, 2, 63, 64} {
		for _, mark := range []int64{0, 64, most - 64} {
			m := of(t, at(int(window), "", 2, fmt.Sprintf("1/5/%d", mark)))
			for i := window; i >= 1; i-- {
				wantDo(t, m, fmt.Sprintf("call 1 %d 0 put t k%d v", mark+i, i), fmt.Sprintf("answered 1 %d -", mark+i))
			}
			was := see(m)
			for i := int64(1); i <= window; i++ {
				wantDo(t, m, fmt.Sprintf("call 1 %d 0 delete t k%d", mark+i, i), fmt.Sprintf("answered 1 %d -", mark+i))
			}
			if mark < most-64 || window < 64 {
				wantDo(t, m, fmt.Sprintf("call 1 %d 0 delete t k1", mark+window+1), fmt.Sprintf("ahead 1 %d", mark+window+1))
			}
			wantSeen(t, "a full window", m, was)
			if n := len(listed(m.Rows())); int64(n) != window {
				t.Errorf("%d rows behind %d puts", n, window)
			}
		}
	}
}

// P11.2: quotas at their bounds.
func TestQuotas(t *testing.T) {
	one := api.Quota{Rows: 1, Bytes: 1}
	wantDoings(t, []doing{
		{state{one, 1, "", 2, "1/5/0"}, "call 1 1 0 put t a %", "answered 1 1 -", state{one, 1, "t/a=", 2, "1/5/0 1=-"}},
		{state{one, 1, "", 2, "1/5/0"}, "call 1 1 0 put t a 1", "answered 1 1 bytes@0", state{one, 1, "", 2, "1/5/0 1=bytes@0"}},
		{state{one, 1, "t/a=", 2, "1/5/0"}, "call 1 1 0 put t b %", "answered 1 1 rows@0", state{one, 1, "t/a=", 2, "1/5/0 1=rows@0"}},
	})
	m := of(t, at(2, manyRows(4095), 2, "1/5/0"))
	wantDo(t, m, "call 1 1 0 put u a 1", "answered 1 1 -")
	wantDo(t, m, "call 1 2 0 put u b 1", "answered 1 2 rows@0")
	wantDo(t, m, "call 1 3 1 delete u a; put u b 1", "answered 1 3 +,-")
	large := of(t, state{api.Quota{Rows: 9, Bytes: 320}, 2, "", 2, "1/5/0"})
	key, value := strings.Repeat("k", 64), strings.Repeat("v", 256)
	wantDo(t, large, "call 1 1 0 put t "+key+" "+value, "answered 1 1 -")
	wantDo(t, large, "call 1 2 0 put t a %", "answered 1 2 bytes@0")
}

// P11.2: answers as great as answers get are kept and told again.
func TestGreatAnswers(t *testing.T) {
	var puts []string
	for i := range 64 {
		puts = append(puts, fmt.Sprintf("t/%064d=%s", i, strings.Repeat("v", 256)))
	}
	m := of(t, at(2, strings.Join(puts, " "), 2, "1/5/0"))
	scan := "call 1 1 0 " + strings.Repeat("scan t % % 64; ", 15) + "scan t % % 64"
	first, e := m.Do(parsed(t, scan))
	if len(first.Answer) < 16*64*320 || e != api.OK {
		t.Errorf("an answer of %d bytes, %v", len(first.Answer), e)
	}
	wantDo(t, m, "call 1 2 0 "+strings.Repeat("delete t "+fmt.Sprintf("%064d", 0)+"; ", 15)+"get t a", "answered 1 2 +"+strings.Repeat(",-", 15))
	again, e := m.Do(parsed(t, scan))
	if string(again.Answer) != string(first.Answer) || e != api.OK {
		t.Errorf("another answer of %d bytes, %v", len(again.Answer), e)
	}
}

// P11.2: commands that may not be are refused, and nothing changes.
func TestDoRefused(t *testing.T) {
	get := api.Call{Ops: []api.Op{{Kind: api.Get, Table: "t", Key: []byte("a")}}}
	put := api.Call{Ops: []api.Op{{Kind: api.Put, Table: "t", Key: []byte("a"), Value: []byte("9")}}}
	was := at(2, "t/a=1", 3, "1/5/2 3=x; 2/6/0")
	m := of(t, was)
	for _, c := range []api.Command{
		{}, {Kind: -1}, {Kind: 5}, {Kind: math.MinInt}, {Kind: math.MaxInt}, {Token: 7}, {Kind: 5, Token: 7}, {Kind: 5, Session: 1}, {Session: 1, Number: 4, Call: put}, {Kind: 5, Session: 1, Number: 4, Call: put},
		{Kind: api.CommandOpen}, {Kind: api.CommandOpen, Token: -1}, {Kind: api.CommandOpen, Token: math.MinInt64}, {Kind: api.CommandOpen, Token: 7, Session: 1}, {Kind: api.CommandOpen, Token: 7, Number: 1},
		{Kind: api.CommandOpen, Token: 7, Mark: 1}, {Kind: api.CommandOpen, Token: 7, Call: get}, {Kind: api.CommandOpen, Token: 5, Session: 1}, {Kind: api.CommandOpen, Session: 1},
		{Kind: api.CommandCall, Number: 4, Call: put}, {Kind: api.CommandCall, Session: -1, Number: 4, Call: put}, {Kind: api.CommandCall, Session: 1, Call: put}, {Kind: api.CommandCall, Session: 1, Number: -1, Call: put},
		{Kind: api.CommandCall, Session: 1, Number: -1, Mark: -2, Call: put}, {Kind: api.CommandCall, Session: 1, Number: 4, Mark: -1, Call: put}, {Kind: api.CommandCall, Session: 1, Number: 4, Mark: 4, Call: put},
		{Kind: api.CommandCall, Session: 1, Number: 4, Mark: 5, Call: put}, {Kind: api.CommandCall, Session: 1, Number: 4, Mark: most, Call: put}, {Kind: api.CommandCall, Session: 1, Number: math.MinInt64, Mark: most, Call: put},
		{Kind: api.CommandCall, Session: 1, Number: 4, Token: 5, Call: put}, {Kind: api.CommandCall, Session: 1, Number: 4}, {Kind: api.CommandCall, Session: 1, Number: 4, Mark: 3}, {Kind: api.CommandCall, Session: 9, Number: 4},
		{Kind: api.CommandCall, Session: 1, Number: 4, Mark: 3, Call: sized(1)}, {Kind: api.CommandCall, Session: 9, Number: 4, Call: sized(1)},
		{Kind: api.CommandCall, Session: 1, Number: 4, Mark: 3, Call: api.Call{Ops: []api.Op{{Kind: 6, Table: "t", Key: []byte("a")}}}}, {Kind: api.CommandCall, Session: 1, Number: 4, Mark: 3, Call: api.Call{Ops: []api.Op{{Kind: api.Put, Table: "T", Key: []byte("a")}}}},
		{Kind: api.CommandCall, Session: 1, Number: 4, Mark: 3, Call: api.Call{Ops: []api.Op{put.Ops[0], {Kind: api.Get, Table: "t"}}}}, {Kind: api.CommandCall, Session: 1, Number: 4, Mark: 3, Call: api.Call{Ops: make([]api.Op, 17)}},
		{Kind: api.CommandCall, Session: 1, Number: 3, Mark: 2, Call: api.Call{Ops: []api.Op{}}},
		{Kind: api.CommandClose}, {Kind: api.CommandClose, Session: -1}, {Kind: api.CommandClose, Session: math.MinInt64}, {Kind: api.CommandClose, Session: 1, Token: 5}, {Kind: api.CommandClose, Session: 1, Number: 1},
		{Kind: api.CommandClose, Session: 1, Mark: 1}, {Kind: api.CommandClose, Session: 1, Call: get}, {Kind: api.CommandExpire}, {Kind: api.CommandExpire, Session: -1}, {Kind: api.CommandExpire, Session: 1, Token: 5},
		{Kind: api.CommandExpire, Session: 1, Number: 1}, {Kind: api.CommandExpire, Session: 1, Mark: 1}, {Kind: api.CommandExpire, Session: 1, Call: get}, {Kind: api.CommandExpire, Token: 5},
	} {
		if got := said(m.Do(c)); got != "error 2" {
			t.Errorf("Do(%v): %s", c, got)
		}
		wantSeen(t, fmt.Sprintf("behind %v", c), m, was)
	}
}

// sized is a call whose form has 4096 bytes, or some more: then it is too long.
func sized(more int) api.Call {
	var c api.Call
	for range 16 {
		c.Ops = append(c.Ops, api.Op{Kind: api.Put, Table: "t", Key: []byte("a"), Value: make([]byte, 249)})
	}
	c.Ops[0].Value = make([]byte, 248+more)
	return c
}

// P11.2: a call as long as calls may be is done, one that is a byte longer is refused.
func TestLongCalls(t *testing.T) {
	m := of(t, at(2, "", 2, "1/5/0"))
	c := api.Command{Kind: api.CommandCall, Session: 1, Number: 1, Call: sized(1)}
	if got := said(m.Do(c)); got != "error 2" {
		t.Errorf("Do of a call that is too long: %s", got)
	}
	wantSeen(t, "behind a call that is too long", m, at(2, "", 2, "1/5/0"))
	c.Call = sized(0)
	if got := said(m.Do(c)); got != "answered 1 1 -"+strings.Repeat(",+", 15) {
		t.Errorf("Do of a long call: %s", got)
	}
}
