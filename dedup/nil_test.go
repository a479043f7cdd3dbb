package dedup_test

import (
	"math"
	"testing"

	"wicket/api"
	"wicket/dedup"
)

// none is machines that are not there, and zero ones.
func none() map[string]*dedup.Machine {
	refused, _ := dedup.New(api.Quota{}, 2)
	narrow, _ := dedup.New(wide, 0)
	notMade, _ := dedup.Of(wide, 2, nil, 1, api.Living{Id: 1, Token: 1})
	full, _ := dedup.Of(api.Quota{Rows: 1, Bytes: 1}, 2, rows("t/a=1"), 1)
	return map[string]*dedup.Machine{"nil": nil, "refused": refused, "narrow": narrow, "not made": notMade, "full": full, "zero": {}, "new": new(dedup.Machine)}
}

// P11.2 to P11.5: of a machine that is not there, of one that New or Of refused, and of a zero one: ErrNil where an error is
// answered, whatever is handed in, else zero answers; and so again.
func TestNoMachine(t *testing.T) {
	for name, m := range none() {
		t.Run(name, func(t *testing.T) {
			for range 2 {
				nothingIsDone(t, m)
				nothingIsFound(t, m)
				nothingIsSeen(t, m)
			}
		})
	}
}

// nothingIsDone asks with commands and calls that may be, and with such that may not: ErrNil is ahead of ErrArg.
func nothingIsDone(t *testing.T, m *dedup.Machine) {
	t.Helper()
	commands := []api.Command{{}, {Kind: 5}, {Kind: api.CommandOpen}, {Kind: api.CommandCall, Session: 1, Number: 1}, {Kind: api.CommandCall, Session: 1, Number: 1, Call: sized(1)}, {Kind: api.CommandClose}}
	for _, text := range []string{"open 5", "call 1 1 0 get t a", "call 1 1 0 put t a 1", "close 1", "expire 1"} {
		commands = append(commands, parsed(t, text))
	}
	for _, c := range commands {
		if got := said(m.Do(c)); got != "error 1" {
			t.Errorf("Do(%v): %s", c, got)
		}
	}
	for _, c := range []api.Call{{}, {Ops: []api.Op{{}}}, sized(1), sized(0), parsedCall(t, "get t a"), parsedCall(t, "scan t % % 9"), parsedCall(t, "put t a 1")} {
		if b, e := m.Read(c); b != nil || e != api.ErrNil {
			t.Errorf("Read(%v): %q, %v", c, b, e)
		}
	}
}

func nothingIsFound(t *testing.T, m *dedup.Machine) {
	t.Helper()
	for _, n := range []int64{math.MinInt64, -1, 0, 1, 2, lastNext, most} {
		if m.Live(n) {
			t.Errorf("Live(%d)", n)
		}
		if id, e := m.Token(n); id != 0 || e != api.ErrNil {
			t.Errorf("Token(%d): %d, %v", n, id, e)
		}
		if l, e := m.Session(n); l.Id != 0 || l.Token != 0 || l.Mark != 0 || l.Kept != nil || e != api.ErrNil {
			t.Errorf("Session(%d): %v, %v", n, l, e)
		}
	}
}

func nothingIsSeen(t *testing.T, m *dedup.Machine) {
	t.Helper()
	if m.All() == nil || m.Rows() == nil {
		t.Fatal("All or Rows is none")
	}
	all, over := m.All(), m.Rows()
	for range 2 {
		if len(listed(all)) != 0 || len(listed(over)) != 0 {
			t.Error("All or Rows tells something")
		}
	}
	if got := see(m); got != (state{}) {
		t.Errorf("it has %v", got)
	}
	if m.Copy() != nil {
		t.Error("its Copy is there")
	}
}

// P11.5: two that are not there are the same, a zero one is as nil; one that is there is another one, without rows and sessions
// too.
func TestSameOfNoMachine(t *testing.T) {
	least, _ := dedup.New(api.Quota{Rows: 1, Bytes: 1}, 1)
	for first, a := range none() {
		for second, b := range none() {
			wantSame(t, first+" and "+second, a, b, true, true)
		}
		wantSame(t, first+" and itself", a, a, true, true)
		for _, b := range []*dedup.Machine{least, of(t, at(64, "", 1, "")), of(t, at(2, "t/a=1", 4, "1/5/0 1=x"))} {
			wantSame(t, first+" and one that is there", a, b, false, false)
		}
	}
}
