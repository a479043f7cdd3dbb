package dedup_test

import (
	"fmt"
	"testing"

	"wicket/api"
	"wicket/dedup"
)

// wantSame holds both against each other, either way round, and their databases too.
func wantSame(t *testing.T, what string, a, b *dedup.Machine, same, database bool) {
	t.Helper()
	if a.Same(b) != same || b.Same(a) != same {
		t.Errorf("%s: Same is %t, and turned round %t, want %t", what, a.Same(b), b.Same(a), same)
	}
	if a.Database(b) != database || b.Database(a) != database {
		t.Errorf("%s: Database is %t, and turned round %t, want %t", what, a.Database(b), b.Database(a), database)
	}
}

// P11.5: a copy has the same state, and goes on apart: what is done to either one is not to be seen in the other.
func TestCopy(t *testing.T) {
	was := at(2, "t/a=1", 4, "1/5/0 1=x; 3/6/0 2=y")
	now := map[string]state{
		"open 7":                          at(2, "t/a=1", 5, "1/5/0 1=x; 3/6/0 2=y; 4/7/0"),
		"call 1 2 0 put t a 2; put u b 3": at(2, "t/a=2 u/b=3", 4, "1/5/0 1=x 2=+,-; 3/6/0 2=y"),
		"call 3 2 1 put t a 2":            at(2, "t/a=1", 4, "1/5/0 1=x; 3/6/1 2=y"),
		"call 1 2 1 delete t a":           at(2, "", 4, "1/5/1 2=+; 3/6/0 2=y"),
		"call 3 9 5 get t a":              at(2, "t/a=1", 4, "1/5/0 1=x; 3/6/5"),
		"close 1":                         at(2, "t/a=1", 4, "3/6/0 2=y"),
		"expire 3":                        at(2, "t/a=1", 4, "1/5/0 1=x"),
	}
	for text, want := range now {
		m := of(t, was)
		c := m.Copy()
		second := c.Copy()
		wantSame(t, "a copy", m, c, true, true)
		m.Do(parsed(t, text))
		wantSeen(t, "the first one behind "+text, m, want)
		wantSeen(t, "its copy behind "+text, c, was)
		wantSame(t, "both behind "+text, m, c, false, m.Database(of(t, was)))
		c.Do(parsed(t, text))
		wantSeen(t, "the copy behind "+text, c, want)
		wantSame(t, "both behind both "+text, m, c, true, true)
		wantSeen(t, "the copy of the copy", second, was)
		c.Do(parsed(t, "open 99"))
		wantSeen(t, "the first one at last", m, want)
	}
}

// P11.5: a copy stays as it is, whatever becomes of all rows and sessions of the first one.
func TestCopyOfMany(t *testing.T) {
	s := at(3, manyRows(500), 300, sessions(256, 5, 1))
	m := of(t, s)
	c := m.Copy()
	for id := int64(5); id < 261; id++ {
		wantDo(t, m, fmt.Sprintf("call %d 3 2 delete t0 k0%03d", id, id), fmt.Sprintf("answered %d 3 +", id))
		wantDo(t, m, fmt.Sprintf("close %d", id), fmt.Sprintf("closed %d", id))
	}
	wantSeen(t, "the copy", c, s)
	wantSame(t, "the copy and the like", c, of(t, s), true, true)
}

// P11.5: Same holds all of the state against each other, Database the quota and the rows alone.
func TestSame(t *testing.T) {
	small := api.Quota{Rows: 9, Bytes: 99}
	databases := []struct {
		q    api.Quota
		rows string
	}{{wide, ""}, {wide, "t/a=1"}, {wide, "t/a=2"}, {wide, "t/b=1"}, {wide, "u/a=1"}, {wide, "t/a=1 t/b=1"}, {wide, "t/a="}, {small, ""}, {small, "t/a=1"}, {api.Quota{Rows: 8, Bytes: 99}, ""}, {api.Quota{Rows: 9, Bytes: 98}, ""}}
	others := []struct {
		window int
		next   int64
		living string
	}{
		{4, 9, ""}, {5, 9, ""}, {4, 8, ""}, {4, 9, "1/5/0"}, {5, 9, "1/5/0"}, {4, 9, "2/5/0"}, {4, 9, "1/6/0"}, {4, 9, "1/5/1"}, {4, 9, "1/5/0 1=a"}, {4, 9, "1/5/0 1=b"}, {4, 9, "1/5/0 2=a"}, {4, 9, "1/5/0 1="}, {4, 9, "1/5/0 1=a 2=b"},
		{4, 9, "1/5/0; 2/6/0"}, {4, 9, "1/6/0; 2/5/0"}, {4, 9, "1/5/0; 3/6/0"}, {4, 10, "1/5/0; 2/6/0"},
	}
	var l []state
	for _, d := range databases {
		for _, o := range others {
			l = append(l, state{d.q, o.window, d.rows, o.next, o.living})
		}
	}
	var first, second []*dedup.Machine
	for _, s := range l {
		first, second = append(first, of(t, s)), append(second, of(t, s))
	}
	for i, a := range first {
		for j, b := range second {
			wantSame(t, l[i].String()+" and "+l[j].String(), a, b, i == j, i/len(others) == j/len(others))
		}
		wantSame(t, "one and itself", a, a, true, true)
	}
}

// P11.5: how a state came to be does not matter.
func TestSameByOtherWays(t *testing.T) {
	m := of(t, at(2, "", 1, ""))
	for _, text := range []string{"open 9", "close 1", "open 8", "open 9", "call 3 1 0 put t b 2; put u z 1", "call 2 1 0 put t a 1; delete u z", "call 3 3 2 swap t b +2 3", "expire 9", "open 8", "call 2 1 0 delete t a"} {
		m.Do(parsed(t, text))
	}
	o := of(t, at(2, "", 1, ""))
	for _, text := range []string{"open 7", "open 8", "close 1", "call 2 1 0 put t a 1; delete u z", "open 9", "call 3 9 2 get t a", "call 3 3 0 put t b 3"} {
		o.Do(parsed(t, text))
	}
	wantSeen(t, "the first one", m, at(2, "t/a=1 t/b=3", 4, "2/8/0 1=-,+; 3/9/2 3=+"))
	wantSame(t, "unlike answers", m, o, false, true)
	for _, x := range []*dedup.Machine{m, o} {
		x.Do(parsed(t, "close 2"))
		x.Do(parsed(t, "close 3"))
	}
	wantSame(t, "behind the sessions' ends", m, o, true, true)
	wantDo(t, o, "open 1", "opened 1 4")
	wantSame(t, "one session more", m, o, false, true)
	wantDo(t, o, "close 4", "closed 4")
	wantSame(t, "another next id", m, o, false, true)
	wantDo(t, m, "open 2", "opened 2 4")
	wantDo(t, m, "expire 4", "closed 4")
	wantSame(t, "the same next id", m, o, true, true)
}
