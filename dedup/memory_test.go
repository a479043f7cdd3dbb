package dedup_test

import (
	"testing"

	"wicket/api"
	"wicket/dedup"
)

// spoil writes over bytes, and over the spare room behind them.
func spoil(b []byte) {
	b = b[:cap(b)]
	for i := range b {
		b[i] = '!'
	}
}

func spoilRows(l []api.Named) {
	l = l[:cap(l)]
	for i := range l {
		spoil(l[i].Key)
		spoil(l[i].Value)
		l[i] = api.Named{Table: "!", Key: []byte("!"), Value: []byte("!")}
	}
}

func spoilKept(l []api.Kept) {
	l = l[:cap(l)]
	for i := range l {
		spoil(l[i].Answer)
		l[i] = api.Kept{Number: -1, Answer: []byte("!")}
	}
}

func spoilLiving(l []api.Living) {
	l = l[:cap(l)]
	for i := range l {
		spoilKept(l[i].Kept)
		l[i] = api.Living{Id: -1, Token: -1, Mark: -1}
	}
}

func spoilCall(c api.Call) {
	ops := c.Ops[:cap(c.Ops)]
	for i := range ops {
		for _, b := range [][]byte{ops[i].Key, ops[i].Value, ops[i].Old, ops[i].To} {
			spoil(b)
		}
		ops[i] = api.Op{Kind: 7, Table: "!"}
	}
}

// room is bytes with spare room behind them.
func room(text string) []byte {
	return []byte(text + "....")[:len(text)]
}

func wantRoom(t *testing.T, what string, b []byte, text string) {
	t.Helper()
	if got := string(b[:len(text)+4]); got != text+"...." || len(b) != len(text) {
		t.Errorf("%s: what was handed in is %q now", what, got)
	}
}

// roomyRows, roomyLiving and roomyCall are lists with spare room behind them, and so have all of their bytes.
func roomyRows(text string) []api.Named {
	l := make([]api.Named, 0, 9)
	for _, r := range rows(text) {
		l = append(l, api.Named{Table: r.Table, Key: room(string(r.Key)), Value: room(string(r.Value))})
	}
	return l
}

func roomyLiving(text string) []api.Living {
	l := make([]api.Living, 0, 9)
	for _, s := range living(text) {
		kept := make([]api.Kept, 0, 9)
		for _, k := range s.Kept {
			kept = append(kept, api.Kept{Number: k.Number, Answer: room(string(k.Answer))})
		}
		l = append(l, api.Living{Id: s.Id, Token: s.Token, Mark: s.Mark, Kept: kept})
	}
	return l
}

func roomyCall(t *testing.T, text string) api.Call {
	t.Helper()
	ops := make([]api.Op, 0, 20)
	for _, op := range parsedCall(t, text).Ops {
		for _, field := range []*[]byte{&op.Key, &op.Value, &op.Old, &op.To} {
			*field = room(string(*field))
		}
		ops = append(ops, op)
	}
	return api.Call{Ops: ops}
}

// roomy is the command, the call's bytes of which have spare room behind them.
func roomy(t *testing.T, text, call string) api.Command {
	t.Helper()
	c := parsed(t, text+" "+call)
	c.Call = roomyCall(t, call)
	return c
}

// What is handed in is not kept: what becomes of it later, spare room included, is not to be seen.
func TestHandedInIsNotKept(t *testing.T) {
	s := at(3, "t/a=1 t/b= u/a=2", 4, "1/5/0 1=a 3=; 3/6/7 8=bb")
	handedRows, handedLiving := roomyRows(s.rows), roomyLiving(s.living)
	m, e := dedup.Of(s.quota, s.window, handedRows, s.next, handedLiving...)
	c := m.Copy()
	spoilRows(handedRows)
	spoilLiving(handedLiving)
	wantSeen(t, "behind Of: "+e.Error(), m, s)
	wantSeen(t, "its copy", c, s)

	say := roomy(t, "call 1 2 0", "put t c 3; swap t a +1 4; delete t b; scan t % z 9; get u a")
	reply, e := m.Do(say)
	read := roomyCall(t, "get t a; scan t % z 9")
	b, _ := m.Read(read)
	spoilCall(say.Call)
	spoilCall(read)
	const answer = "-,+,+,-[a=4|c=3],+2"
	wantText(t, "a reply", said(reply, e), "answered 1 2 "+answer)
	wantText(t, "what Read told", answerText(b), "+4,-[a=4|c=3]")
	wantSeen(t, "behind Do", m, at(3, "t/a=4 t/c=3 u/a=2", 4, "1/5/0 1=a 2="+answer+" 3=; 3/6/7 8=bb"))
}

// What is handed in is not changed, spare room included, by whatever is done then or later, where it is refused too.
func TestHandedInIsNotChanged(t *testing.T) {
	const allRows, allLiving = "t/a=1 t/b=2", "1/5/0 1=a 2=bb; 3/6/7 8=c"
	handedRows, handedLiving := roomyRows(allRows), roomyLiving(allLiving)
	m, _ := dedup.Of(wide, 2, handedRows, 4, handedLiving...)
	none, e := dedup.Of(wide, 1, handedRows, 4, handedLiving...)
	wantRefused(t, "a window that is too small", none, e)
	none, e = dedup.Of(api.Quota{Rows: 1, Bytes: 9}, 2, handedRows, 4, handedLiving...)
	wantRefused(t, "a quota that is too small", none, e)
	texts := []string{"put t a 9; get t b", "swap t a +5 6; get t a", "delete t a; scan t a z 9", "get t a; scan t % % 9"}
	var handed []api.Call
	for i, text := range texts {
		c := roomy(t, []string{"call 3 8 7", "call 3 9 7", "call 1 2 1", "call 1 9 1"}[i], text)
		handed = append(handed, c.Call)
		reply, _ := m.Do(c)
		spoil(reply.Answer)
		b, _ := m.Read(c.Call)
		spoil(b)
		c.Mark = 99
		m.Do(c)
	}
	spoilLiving(listed(m.All()))
	spoilRows(listed(m.Rows()))
	m.Do(parsed(t, "call 1 3 2 put t b 7"))
	wantText(t, "the rows", rowsText(handedRows), allRows)
	wantText(t, "the sessions", livingText(handedLiving), allLiving)
	if behind := handedRows[:3][2]; behind.Table != "" || behind.Key != nil {
		t.Errorf("behind the rows stands %v now", behind)
	}
	if behind := handedLiving[:3][2]; behind.Id != 0 || behind.Kept != nil {
		t.Errorf("behind the sessions stands %v now", behind)
	}
	for _, r := range handedRows {
		wantRoom(t, "a key", r.Key, string(r.Key))
		wantRoom(t, "a value", r.Value, string(r.Value))
	}
	for _, s := range handedLiving {
		for _, k := range s.Kept {
			wantRoom(t, "an answer", k.Answer, string(k.Answer))
		}
		if behind := s.Kept[:9][8]; behind.Number != 0 || behind.Answer != nil {
			t.Errorf("behind the answers stands %v now", behind)
		}
	}
	for i, c := range handed {
		wantCallAsItWas(t, c, texts[i])
	}
}

func wantCallAsItWas(t *testing.T, c api.Call, text string) {
	t.Helper()
	want := parsedCall(t, text)
	if len(c.Ops) != len(want.Ops) || c.Ops[:cap(c.Ops)][len(c.Ops)].Kind != 0 {
		t.Fatalf("%s: the list of ops is another one now", text)
	}
	for i, op := range c.Ops {
		w := want.Ops[i]
		if op.Kind != w.Kind || op.Table != w.Table || op.Has != w.Has || op.Most != w.Most {
			t.Errorf("%s: the op %d is %v now", text, i, op)
		}
		for j, b := range [][]byte{op.Key, op.Value, op.Old, op.To} {
			wantRoom(t, text, b, string([][]byte{w.Key, w.Value, w.Old, w.To}[j]))
		}
	}
}

// What is told is the caller's: neither the machine, nor another answer, nor a copy has part of it.
func TestToldIsTheCallers(t *testing.T) {
	s := at(3, "t/a=11 t/b=22", 4, "1/5/0 1=aa 3=; 3/6/7 8=bb 9=ccc")
	m := of(t, s)
	c := m.Copy()
	for _, x := range []*dedup.Machine{m, c, m.Copy(), m} {
		spoilLiving(listed(x.All()))
		spoilRows(listed(x.Rows()))
		for _, id := range []int64{1, 3} {
			l, _ := x.Session(id)
			spoilKept(l.Kept)
		}
		for _, text := range []string{"call 1 1 0 get t a", "call 1 3 0 get t a", "call 3 9 7 put t a 3"} {
			reply, _ := x.Do(parsed(t, text))
			spoil(reply.Answer)
		}
		b, _ := x.Read(parsedCall(t, "get t a; scan t % % 9"))
		spoil(b)
		wantSeen(t, "the machine", m, s)
		wantSeen(t, "its copy", c, s)
	}
}

// A reply to a call that is done now is the caller's, too: the answer that is kept is another one.
func TestNewRepliesAreTheCallers(t *testing.T) {
	m := of(t, at(2, "t/a=1", 2, "1/5/0"))
	first, _ := m.Do(parsed(t, "call 1 1 0 get t a; put t a 2"))
	second, _ := m.Do(parsed(t, "call 1 1 0 get t a"))
	third, _ := m.Do(parsed(t, "call 1 1 0 get t a"))
	spoil(first.Answer)
	wantText(t, "the second one", answerText(second.Answer), "+1,+")
	spoil(second.Answer)
	wantText(t, "the third one", answerText(third.Answer), "+1,+")
	wantDo(t, m, "call 1 1 0 get t a", "answered 1 1 +1,+")
	wantSeen(t, "the machine", m, at(2, "t/a=2", 2, "1/5/0 1=+1,+"))
}

// The parts of one answer share nothing, spare room included.
func TestPartsAreApart(t *testing.T) {
	m := of(t, at(4, "t/a=11 t/b=22", 4, "1/5/9 10=aa 11=b 12=cc 13=ddd; 3/6/7 8=ee"))
	l, _ := m.Session(1)
	for i, rest := range []string{"1/5/9 11=b 12=cc 13=ddd", "1/5/9 12=cc 13=ddd", "1/5/9 13=ddd", "1/5/9"} {
		spoil(l.Kept[i].Answer)
		wantText(t, "behind a spoilt answer", livingText([]api.Living{{Id: 1, Token: 5, Mark: 9, Kept: l.Kept[i+1:]}}), rest)
	}
	all := listed(m.All())
	spoilKept(all[0].Kept)
	wantText(t, "beside a spoilt session", livingText(all[1:]), "3/6/7 8=ee")
	for r := range m.Rows() {
		had := string(r.Value)
		spoil(r.Key)
		wantText(t, "a value beside its spoilt key", string(r.Value), had)
	}
	wantText(t, "behind all", livingText(listed(m.All())), "1/5/9 10=aa 11=b 12=cc 13=ddd; 3/6/7 8=ee")
}

// What is told while one goes over is the caller's at once, and what follows stays as it stood.
func TestSpoiltByTheWay(t *testing.T) {
	s := at(2, "t/a=1 t/b=2 u/a=3", 4, "1/5/0 1=a; 2/6/0 1=b; 3/7/0 1=c 2=d")
	m := of(t, s)
	var texts, named []string
	for l := range m.All() {
		texts = append(texts, livingText([]api.Living{l}))
		spoilKept(l.Kept)
	}
	for r := range m.Rows() {
		named = append(named, rowsText([]api.Named{r}))
		spoil(r.Key)
		spoil(r.Value)
	}
	if len(texts) != 3 || texts[2] != "3/7/0 1=c 2=d" || len(named) != 3 || named[2] != "u/a=3" {
		t.Errorf("All, Rows: %q, %q", texts, named)
	}
	wantSeen(t, "behind all", m, s)
}

// What was told stays as it was, whatever the machine does then.
func TestToldStaysAsItWas(t *testing.T) {
	m := of(t, at(2, "t/a=1", 2, "1/5/0"))
	reply, e := m.Do(parsed(t, "call 1 1 0 get t a; scan t % % 9"))
	l, _ := m.Session(1)
	all, named := listed(m.All()), listed(m.Rows())
	b, _ := m.Read(parsedCall(t, "get t a"))
	for _, text := range []string{"call 1 2 1 put t a 9", "call 1 3 2 delete t a", "call 1 65 64 put t a 7", "close 1", "open 5"} {
		m.Do(parsed(t, text))
	}
	wantText(t, "a reply", said(reply, e), "answered 1 1 +1,-[a=1]")
	wantText(t, "Session", livingText([]api.Living{l}), "1/5/0 1=+1,-[a=1]")
	wantText(t, "All", livingText(all), "1/5/0 1=+1,-[a=1]")
	wantText(t, "Rows", rowsText(named), "t/a=1")
	wantText(t, "Read", answerText(b), "+1")
}
