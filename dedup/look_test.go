package dedup_test

import (
	"fmt"
	"math"
	"strings"
	"testing"

	"wicket/api"
	"wicket/dedup"
)

func wantRead(t *testing.T, m *dedup.Machine, call, want string) {
	t.Helper()
	b, e := m.Read(parsedCall(t, call))
	if got := answerText(b); got != want || e != api.OK {
		t.Errorf("Read(%s): %q, %v, want %q", call, got, e, want)
	}
}

// P11.3: Read tells what the call says of the rows, as bytes, with sessions and without, and changes nothing.
func TestRead(t *testing.T) {
	for _, s := range []state{at(2, "t/a=1 t/b= u/a=3", 1, ""), at(1, "t/a=1 t/b= u/a=3", 9, "3/5/7 8=x")} {
		m := of(t, s)
		for _, x := range [][2]string{
			{"get t a", "+1"}, {"get t b", "+"}, {"get t c", "-"}, {"get v a", "-"}, {"scan t % % 64", "-[a=1|b=]"}, {"scan t b % 9", "-[b=]"}, {"scan t % b 9", "-[a=1]"}, {"scan v % % 1", "-"},
			{"get t a; get u a; scan t % % 1; get t c", "+1,+3,-[a=1],-"}, {strings.Repeat("get t a; ", 15) + "get t a", strings.Repeat("+1,", 15) + "+1"},
		} {
			wantRead(t, m, x[0], x[1])
			wantSeen(t, "behind Read", m, s)
		}
	}
	m := of(t, at(2, "t/a=1", 1, ""))
	if b, e := m.Read(parsedCall(t, "get t a")); string(b) != "\x00\x01\x01\x01\x31\x00" || e != api.OK {
		t.Errorf("Read(get t a): % X, %v", b, e)
	}
	if b, e := m.Read(parsedCall(t, "get t b")); string(b) != "\x00\x01\x00\x00\x00" || e != api.OK {
		t.Errorf("Read(get t b): % X, %v", b, e)
	}
}

// P11.3: Read sees what the commands ahead of it did, and what those that were aborted did not.
func TestReadBehindCommands(t *testing.T) {
	m := of(t, at(2, "", 2, "1/5/0"))
	wantRead(t, m, "get t a", "-")
	wantDo(t, m, "call 1 1 0 put t a 1", "answered 1 1 -")
	wantRead(t, m, "get t a", "+1")
	wantDo(t, m, "call 1 2 0 put t a 2; swap t a +1 3", "answered 1 2 other@1")
	wantRead(t, m, "get t a", "+1")
	wantDo(t, m, "call 1 1 0 put t a 4", "answered 1 1 -")
	wantDo(t, m, "call 1 3 0 put t a 5", "ahead 1 3")
	wantRead(t, m, "get t a", "+1")
	wantDo(t, m, "close 1", "closed 1")
	wantRead(t, m, "get t a", "+1")
	wantSeen(t, "behind all", m, at(2, "t/a=1", 2, ""))
}

// P11.3: the longest of all calls that only read goes.
func TestReadTheLongest(t *testing.T) {
	var c api.Call
	for range 16 {
		c.Ops = append(c.Ops, api.Op{Kind: api.Scan, Table: strings.Repeat("t", 16), Key: make([]byte, 64), To: make([]byte, 64), Most: 64})
	}
	b, e := of(t, at(2, "", 1, "")).Read(c)
	if got := answerText(b); got != "-"+strings.Repeat(",-", 15) || e != api.OK {
		t.Errorf("Read of the longest: %q, %v", got, e)
	}
}

// P11.3: a call that may not be, one that does not only read, one that is too long: refused.
func TestReadRefused(t *testing.T) {
	was := at(2, "t/a=1", 2, "1/5/0")
	m := of(t, was)
	one := func(op api.Op) api.Call { return api.Call{Ops: []api.Op{op}} }
	for _, c := range []api.Call{
		{}, {Ops: []api.Op{}}, one(api.Op{}), one(api.Op{Kind: 6, Table: "t", Key: []byte("a")}), one(api.Op{Kind: -1, Table: "t", Key: []byte("a")}), one(api.Op{Kind: api.Get, Table: "t"}),
		one(api.Op{Kind: api.Get, Table: "T", Key: []byte("a")}), one(api.Op{Kind: api.Get, Key: []byte("a")}), one(api.Op{Kind: api.Get, Table: "t", Key: make([]byte, 65)}), one(api.Op{Kind: api.Get, Table: "t", Key: []byte("a"), Value: []byte("1")}),
		one(api.Op{Kind: api.Scan, Table: "t"}), one(api.Op{Kind: api.Scan, Table: "t", Most: 65}), one(api.Op{Kind: api.Scan, Table: "t", Most: -1}), {Ops: make([]api.Op, 17)},
		parsedCall(t, "put t a 1"), parsedCall(t, "delete t a"), parsedCall(t, "delete t z"), parsedCall(t, "swap t a +1 1"), parsedCall(t, "swap t a - 1"), parsedCall(t, "get t a; put t a 2"),
		parsedCall(t, "put t a 2; get t a"), parsedCall(t, strings.Repeat("get t a; ", 15)+"delete t a"), sized(0), sized(1),
	} {
		if b, e := m.Read(c); b != nil || e != api.ErrArg {
			t.Errorf("Read(%v): % X, %v", c, b, e)
		}
		wantSeen(t, "behind a refused Read", m, was)
	}
}

// P11.4: Live and Session of ids that live, that have ended, that never were; Token of tokens likewise.
func TestLiveSessionToken(t *testing.T) {
	was := at(3, "t/a=1", 9, "2/50/0; 4/7/3 4=a 6=; 8/9223372036854775807/0 1=x")
	m := of(t, was)
	want := map[int64]string{2: "2/50/0", 4: "4/7/3 4=a 6=", 8: "8/9223372036854775807/0 1=x"}
	for _, id := range []int64{math.MinInt64, -4, -1, 0, 1, 2, 3, 4, 5, 7, 8, 9, 10, 50, lastNext, most} {
		text, lives := want[id]
		if m.Live(id) != lives {
			t.Errorf("Live(%d): %t", id, m.Live(id))
		}
		l, e := m.Session(id)
		switch {
		case lives && (livingText([]api.Living{l}) != text || e != api.OK):
			t.Errorf("Session(%d): %v, %v", id, l, e)
		case !lives && (l.Id != 0 || l.Token != 0 || l.Mark != 0 || l.Kept != nil || e != api.ErrNone):
			t.Errorf("Session(%d): %v, %v", id, l, e)
		}
	}
	ids := map[int64]int64{50: 2, 7: 4, most: 8}
	for _, token := range []int64{math.MinInt64, -7, -1, 0, 1, 2, 4, 6, 7, 8, 49, 50, 51, most - 1, most} {
		id, e := m.Token(token)
		if errno := map[bool]api.Errno{true: api.OK, false: api.ErrNone}[ids[token] != 0]; id != ids[token] || e != errno {
			t.Errorf("Token(%d): %d, %v", token, id, e)
		}
	}
	wantSeen(t, "behind looking", m, was)
}

// P11.4: what is looked at follows what is done.
func TestLookingBehindCommands(t *testing.T) {
	m := of(t, at(2, "", 1, ""))
	for _, x := range []struct {
		say    string
		live   bool // the session 1
		token  int64
		next   int64
		rows   string
		living string
	}{
		{"close 1", false, 0, 1, "", ""}, {"open 5", true, 1, 2, "", "1/5/0"}, {"open 5", true, 1, 2, "", "1/5/0"}, {"open 6", true, 1, 3, "", "1/5/0; 2/6/0"}, {"call 1 2 1 put t a 1", true, 1, 3, "t/a=1", "1/5/1 2=-; 2/6/0"},
		{"call 2 1 0 put s a 1", true, 1, 3, "s/a=1 t/a=1", "1/5/1 2=-; 2/6/0 1=-"}, {"expire 1", false, 0, 3, "s/a=1 t/a=1", "2/6/0 1=-"}, {"open 5", false, 3, 4, "s/a=1 t/a=1", "2/6/0 1=-; 3/5/0"},
		{"close 2", false, 3, 4, "s/a=1 t/a=1", "3/5/0"}, {"call 3 1 0 delete t a; delete s a", false, 3, 4, "", "3/5/0 1=+,+"},
	} {
		m.Do(parsed(t, x.say))
		wantSeen(t, "behind "+x.say, m, at(2, x.rows, x.next, x.living))
		id, e := m.Token(5)
		if m.Live(1) != x.live || id != x.token || (e == api.OK) != (x.token > 0) {
			t.Errorf("behind %s: Live(1), Token(5): %t, %d, %v", x.say, m.Live(1), id, e)
		}
	}
}

// P11.4: All by rising ids and Rows in order, however they came there, and the same again and again.
func TestInOrder(t *testing.T) {
	m := of(t, at(2, "", 1, ""))
	for i := range int64(256) {
		wantDo(t, m, fmt.Sprintf("open %d", 1+(i*77)%256), fmt.Sprintf("opened %d %d", 1+(i*77)%256, i+1))
	}
	for id := int64(3); id <= 256; id += 3 {
		m.Do(parsed(t, fmt.Sprintf("close %d", id)))
	}
	for _, text := range []string{"call 1 1 0 put u b 1; put t c 2; put t0 a 3; put t a 4", "call 1 2 0 put u a 5; put t aa 6; put t %FF 7; put 9 z 8; put t %00 9"} {
		m.Do(parsed(t, text))
	}
	for range 20 {
		last, n := int64(0), 0
		for l := range m.All() {
			if l.Id <= last || l.Id%3 == 0 || l.Token != 1+((l.Id-1)*77)%256 {
				t.Fatalf("All tells %v behind %d", l, last)
			}
			last, n = l.Id, n+1
		}
		if n != 256-85 || last != 256 {
			t.Fatalf("All tells %d, the last one %d", n, last)
		}
		if got := rowsText(listed(m.Rows())); got != "9/z=8 t/\x00=9 t/a=4 t/aa=6 t/c=2 t/\xff=7 t0/a=3 u/a=5 u/b=1" {
			t.Fatalf("Rows: %q", got)
		}
	}
}

// P11.4: going over may be left at any time, tells nothing more then, and goes as often as one likes.
func TestLeftEarly(t *testing.T) {
	m := of(t, at(2, "s/a=1 t/a=2 t/b=3", 9, "1/5/0 1=a; 4/6/0; 7/8/2"))
	all, over := m.All(), m.Rows()
	for n := 1; n <= 4; n++ {
		wantText(t, "All left early", livingText(firstOf(all, n)), strings.Join(strings.Split("1/5/0 1=a; 4/6/0; 7/8/2", "; ")[:min(n, 3)], "; "))
		wantText(t, "Rows left early", rowsText(firstOf(over, n)), strings.Join(strings.Fields("s/a=1 t/a=2 t/b=3")[:min(n, 3)], " "))
	}
	for range 2 {
		wantText(t, "All again", livingText(listed(all)), "1/5/0 1=a; 4/6/0; 7/8/2")
		wantText(t, "Rows again", rowsText(listed(over)), "s/a=1 t/a=2 t/b=3")
	}
	for range all {
		wantText(t, "All within All", livingText(listed(all)), "1/5/0 1=a; 4/6/0; 7/8/2")
		wantText(t, "Rows within All", rowsText(listed(over)), "s/a=1 t/a=2 t/b=3")
	}
}

// firstOf is the first n things, asked for by a function that says when it is enough; it is told nothing behind that.
func firstOf[T any](over func(func(T) bool), n int) []T {
	var l []T
	over(func(x T) bool {
		l = append(l, x)
		return len(l) != n
	})
	return l
}

func wantText(t *testing.T, what, got, want string) {
	t.Helper()
	if got != want {
		t.Errorf("%s: %.300q, want %.300q", what, got, want)
	}
}

// P11.4: what is gone over stands as it did when going over began (not when All or Rows was asked), whatever is done by the
// way: sessions opened, ended, marks raised, answers kept and forgotten, rows put and taken out.
func TestAsItStood(t *testing.T) {
	m := of(t, at(2, "t/a=0", 1, ""))
	all, over := m.All(), m.Rows()
	for _, text := range []string{"open 5", "open 6", "open 7", "call 1 1 0 put t a 1", "call 2 1 0 put t b 2", "call 3 1 0 put t c 3"} {
		m.Do(parsed(t, text))
	}
	byTheWay := []string{"call 3 2 1 put t c 9; delete t b", "call 2 2 0 put t bb 4", "close 2", "open 8", "expire 1", "open 5", "call 4 1 0 delete t c"}
	const living, rows = "1/5/0 1=+; 2/6/0 1=-; 3/7/0 1=-", "t/a=1 t/b=2 t/c=3"
	c := m.Copy()
	var l []api.Living
	for s := range all {
		l = append(l, s)
		for _, text := range byTheWay {
			m.Do(parsed(t, text))
		}
	}
	wantText(t, "All", livingText(l), living)
	const livingNow, rowsNow = "3/7/1 2=+,+; 4/8/0 1=+; 5/5/0", "t/a=1 t/bb=4"
	wantText(t, "All again", livingText(listed(all)), livingNow)
	wantText(t, "Rows behind it", rowsText(listed(over)), rowsNow)
	var named []api.Named
	for r := range c.Rows() {
		named = append(named, r)
		for _, text := range byTheWay {
			c.Do(parsed(t, text))
		}
	}
	wantText(t, "Rows", rowsText(named), rows)
	wantText(t, "Rows again", rowsText(listed(c.Rows())), rowsNow)
	wantText(t, "All behind it", livingText(listed(c.All())), livingNow)
}

// P11.4: Quota and Window stay, whatever is done; Next goes up by opened sessions alone.
func TestQuotaWindowNext(t *testing.T) {
	q := api.Quota{Rows: 2, Bytes: 7}
	m, _ := dedup.New(q, 3)
	next := int64(1)
	for _, text := range []string{"open 1", "open 1", "call 1 1 0 put t a 1", "call 1 2 0 put t b 1", "call 1 3 0 put t c 1", "call 1 9 2 get t a", "close 1", "close 1", "open 1", "expire 2", "open 9", "open 8"} {
		r, _ := m.Do(parsed(t, text))
		if r.Kind == api.ReplyOpened && r.Session == next {
			next++
		}
		if m.Quota() != q || m.Window() != 3 || m.Next() != next {
			t.Errorf("behind %s: Quota %v, Window %d, Next %d, not %d", text, m.Quota(), m.Window(), m.Next(), next)
		}
	}
	if next != 5 {
		t.Errorf("Next is %d behind all", next)
	}
}
