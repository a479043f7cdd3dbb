package snap_test

import (
	"fmt"
	"math/rand"
	"strings"
	"testing"

	"wicket/api"
	"wicket/command"
	"wicket/dedup"
)

// someNumber is 0 or more, of any length.
func someNumber(r *rand.Rand) int64 {
	return r.Int63() >> r.Intn(64)
}

// someBytes is at most so many.
func someBytes(r *rand.Rand, most int) []byte {
	b := make([]byte, r.Intn(most+1))
	r.Read(b)
	return b
}

// someState is one that may be, of few rows and sessions.
func someState(r *rand.Rand) state {
	s := state{someNumber(r), api.Quota{Rows: 1 + r.Intn(api.MaxRows), Bytes: 1 + r.Intn(api.MaxSize)}, 1 + r.Intn(api.MaxWindow), 1, nil, nil}
	size := 0
	for i := range r.Intn(6) {
		row := api.Named{Table: fmt.Sprintf("t%d", i/2), Key: append([]byte{byte(i)}, someBytes(r, 63)...), Value: someBytes(r, 256)}
		size += len(row.Key) + len(row.Value)
		if i < s.quota.Rows && size <= s.quota.Bytes {
			s.rows = append(s.rows, row)
		}
	}
	id := int64(0)
	for i := range int64(r.Intn(6)) {
		id += 1 + someNumber(r)>>5
		l := api.Living{Id: id, Token: 1 + someNumber(r)>>4<<3 + i, Mark: someNumber(r)}
		for n := range int64(s.window) {
			if r.Intn(s.window) < 3 && n < most-l.Mark {
				l.Kept = append(l.Kept, api.Kept{Number: l.Mark + 1 + n, Answer: someBytes(r, 20)})
			}
		}
		s.living = append(s.living, l)
	}
	s.next = min(id+1+someNumber(r)>>2, lastNext)
	return s
}

// someCommand is about few sessions, few rows, and numbers and marks that go up.
func someCommand(t testing.TB, r *rand.Rand, m *dedup.Machine) api.Command {
	t.Helper()
	id := 1 + r.Int63n(m.Next())
	s, _ := m.Session(id)
	number := s.Mark + 1 + int64(r.Intn(m.Window()+1))
	mark := s.Mark + r.Int63n(number-s.Mark)
	if r.Intn(3) > 0 {
		mark = s.Mark
	}
	put := fmt.Sprintf("put %c %c %s", "tu"[r.Intn(2)], "abc"[r.Intn(3)], strings.Repeat("v", r.Intn(4))+"1")
	texts := []string{
		fmt.Sprintf("open %d", 1+r.Intn(9)), fmt.Sprintf("open %d", 1+r.Intn(9)), fmt.Sprintf("close %d", id),
		fmt.Sprintf("call %d %d %d %s; scan t %% %% 9", id, number, mark, put), fmt.Sprintf("call %d %d %d %s", id, number, mark, put),
		fmt.Sprintf("call %d %d %d delete t a; get u a", id, number, mark), fmt.Sprintf("call %d %d %d swap t b +1 2", id, number, mark),
	}
	c, e := command.Parse(texts[r.Intn(len(texts))])
	if e != api.OK {
		t.Fatalf("%q: %v", texts, e)
	}
	return c
}

// someMachine is one that any commands left.
func someMachine(t testing.TB, r *rand.Rand) *dedup.Machine {
	t.Helper()
	m, e := dedup.New(api.Quota{Rows: 1 + r.Intn(6), Bytes: 1 + r.Intn(30)}, 1+r.Intn(5))
	if e != api.OK {
		t.Fatal(e)
	}
	for range r.Intn(60) {
		m.Do(someCommand(t, r, m))
	}
	return m
}
