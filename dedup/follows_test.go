package dedup_test

import (
	"fmt"
	"math/rand"
	"testing"

	"wicket/api"
	"wicket/dedup"
)

// some is a machine that any commands left, and what it must be.
func some(t *testing.T, r *rand.Rand) both {
	t.Helper()
	s := state{api.Quota{Rows: 1 + r.Intn(6), Bytes: 1 + r.Intn(30)}, 1 + r.Intn(5), "", 1, ""}
	b := bothOf(t, s)
	for range r.Intn(60) {
		c := someCommand(t, r, b.p)
		b.m.Do(c)
		b.p.do(c)
	}
	return b
}

// P11.6: what Do does and answers hangs on the state and the command alone: machines that are the same, however they came to
// be, answer the same, and are the same behind it.
func TestSameAnswerTheSame(t *testing.T) {
	r := rand.New(rand.NewSource(1161))
	for range 400 {
		b := some(t, r)
		others := []*dedup.Machine{b.m.Copy(), of2(t, b.m), of2(t, b.m.Copy()).Copy()}
		for range 8 {
			c := someCommand(t, r, b.p)
			b.p.do(c)
			want := said(b.m.Do(c))
			for i, o := range others {
				wantText(t, fmt.Sprintf("%v to the like of number %d", c, i), said(o.Do(c)), want)
				wantSame(t, fmt.Sprintf("behind %v", c), b.m, o, true, true)
			}
		}
	}
}

// P11.6: one that is made anew from what is told behind each command goes as one that is not.
func TestMadeAnewBehindEachCommand(t *testing.T) {
	for seed := range int64(20) {
		r := rand.New(rand.NewSource(1162 + seed))
		b := some(t, r)
		o := b.m.Copy()
		for range 60 {
			c := someCommand(t, r, b.p)
			want := said(b.m.Do(c))
			b.p.do(c)
			o = of2(t, o)
			wantText(t, fmt.Sprintf("%v", c), said(o.Do(c)), want)
		}
		wantSame(t, "behind all", b.m, o, true, true)
	}
}

// P11.6: reads, looks and refused commands leave the state.
func TestLookingChangesNothing(t *testing.T) {
	r := rand.New(rand.NewSource(1163))
	for range 300 {
		b := some(t, r)
		was := b.m.Copy()
		for range 5 {
			b.m.Read(someCall(t, r))
			b.find(t, b.m.Next()-int64(r.Intn(5)), int64(r.Intn(9)))
			c := someCommand(t, r, b.p)
			c.Mark, c.Token = c.Number, c.Token+1
			c.Kind = api.CommandCall
			wantText(t, "a command that may not be", said(b.m.Do(c)), "error 2")
		}
		wantSame(t, "behind looking", b.m, was, true, true)
		b.check(t)
	}
}

// once is what was told of the numbers of sessions.
type once struct {
	first   map[[2]int64]string // of each session and number the first answer
	changed map[[2]int64]int    // how often the database changed
}

func (o once) do(t *testing.T, m *dedup.Machine, c api.Command) api.Reply {
	t.Helper()
	at := [2]int64{c.Session, c.Number}
	was := m.Copy()
	r, _ := m.Do(c)
	if !m.Database(was) {
		o.changed[at]++
		if c.Kind != api.CommandCall || o.changed[at] > 1 || r.Kind != api.ReplyAnswered {
			t.Errorf("%v changed the database, the %dth time, and was told %v", c, o.changed[at], r)
		}
	}
	if r.Kind == api.ReplyAnswered {
		if first, has := o.first[at]; has && first != string(r.Answer) {
			t.Errorf("%v was told %q, and first %q", c, r.Answer, first)
		}
		o.first[at] = string(r.Answer)
	}
	return r
}

// P11.6, P0.2: whatever comes, as often as it comes: of each session and number at most one Call changes the database, and each
// answer to it is, byte by byte, the first one.
func TestOnce(t *testing.T) {
	changed, answered := 0, 0
	for seed := range int64(40) {
		r := rand.New(rand.NewSource(1170 + seed))
		b := bothOf(t, state{api.Quota{Rows: 4, Bytes: 30}, 1 + r.Intn(5), "", 1, ""})
		o := once{map[[2]int64]string{}, map[[2]int64]int{}}
		var past []api.Command
		for range 200 {
			c := someCommand(t, r, b.p)
			if len(past) > 0 && r.Intn(3) == 0 {
				c = past[r.Intn(len(past))]
			}
			past = append(past, c)
			o.do(t, b.m, c)
			b.p.do(c)
			if r.Intn(20) == 0 {
				b.m = of2(t, b.m)
			}
		}
		changed, answered = changed+len(o.changed), answered+len(o.first)
	}
	if changed < 300 || answered < 1000 {
		t.Errorf("only %d changes, %d answers", changed, answered)
	}
}

// P11.6, P0.2: clients that send each call some times, over a way that doubles, loses and holds up, each put counting one up: at
// last each call is there just once.
func TestOnceWithClients(t *testing.T) {
	for seed := range int64(20) {
		r := rand.New(rand.NewSource(1180 + seed))
		window := 1 + r.Intn(8)
		m := of(t, at(window, "", 1, ""))
		o := once{map[[2]int64]string{}, map[[2]int64]int{}}
		got, marks := map[[2]int64]int{}, [3]int64{}
		for i := range marks {
			wantDo(t, m, fmt.Sprintf("open %d", 7+i), fmt.Sprintf("opened %d %d", 7+i, i+1))
		}
		var way []api.Command
		for min(marks[0], marks[1], marks[2]) < 60 {
			i := r.Intn(len(marks))
			for got[[2]int64{int64(i + 1), marks[i] + 1}] > 0 {
				marks[i]++
			}
			for _, number := range []int64{marks[i] + 1, marks[i] + 1 + int64(r.Intn(window))} {
				way = append(way, parsed(t, fmt.Sprintf("call %d %d %d put c%d k%d v; get c%d k%d", i+1, number, marks[i], i, number, i, number)))
			}
			if c := way[r.Intn(len(way))]; o.do(t, m, c).Kind == api.ReplyAnswered {
				got[[2]int64{c.Session, c.Number}]++
			}
		}
		if n := len(listed(m.Rows())); n != len(o.changed) || n < 180 {
			t.Errorf("%d rows behind %d changes", n, len(o.changed))
		}
		for at, times := range o.changed {
			if times != 1 {
				t.Errorf("%v changed the database %d times", at, times)
			}
		}
	}
}

// P11.6: ids are given out once each, and rise; Next is above all of them.
func TestIdsOnce(t *testing.T) {
	for seed := range int64(20) {
		r := rand.New(rand.NewSource(1190 + seed))
		m := of(t, at(1, "", 1, ""))
		given, last := map[int64]int64{}, int64(0)
		for range 1500 {
			if r.Intn(5) > 1 {
				token := 1 + int64(r.Intn(400))
				had, e := m.Token(token)
				reply, _ := m.Do(api.Command{Kind: api.CommandOpen, Token: token})
				if reply.Kind == api.ReplyFull {
					continue
				}
				if e == api.OK && reply.Session != had || e != api.OK && reply.Session <= last || e != api.OK && given[reply.Session] != 0 {
					t.Fatalf("open %d: %v; it had %d, the last id is %d", token, reply, had, last)
				}
				given[reply.Session], last = token, max(last, reply.Session)
			} else {
				m.Do(api.Command{Kind: api.CommandClose + api.CommandKind(r.Intn(2)), Session: 1 + int64(r.Intn(int(m.Next())))})
			}
			if m.Next() != last+1 {
				t.Fatalf("Next is %d behind %d", m.Next(), last)
			}
		}
		if len(given) < 300 {
			t.Errorf("only %d ids", len(given))
		}
	}
}

// P11.6: Of of what is told is the same machine: of any, of great ones, of such that have their last ids.
func TestOfWhatIsTold(t *testing.T) {
	r := rand.New(rand.NewSource(1164))
	for range 500 {
		b := some(t, r)
		wantSame(t, "any", b.m, of2(t, b.m), true, true)
	}
	for _, s := range []state{
		at(1, "", 1, ""), at(64, manyRows(4096), 257, sessions(256, 1, 1)), at(64, "", lastNext, sessions(256, lastNext-256, 1)), at(64, "t/a=1", lastNext, ""),
		at(64, "", 2, "1/1/5 "+full(64, 5)), at(2, "", 5, "4/9223372036854775807/9223372036854775806 9223372036854775807=x"),
	} {
		m := of(t, s)
		o := of2(t, m)
		wantSame(t, "a great one", m, o, true, true)
		wantSeen(t, "a great one", o, s)
	}
}
