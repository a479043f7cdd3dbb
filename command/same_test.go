package command_test

import (
	"math"
	"testing"

	"wicket/api"
	"wicket/command"
)

// wantSame asks both ways round.
func wantSame(t *testing.T, a, b api.Command, want bool) {
	t.Helper()
	if command.Same(a, b) != want || command.Same(b, a) != want {
		t.Errorf("Same(%.200v, %.200v): %v, %v", a, b, command.Same(a, b), command.Same(b, a))
	}
}

// full is a command with all fields, which may not be.
func full() api.Command {
	return api.Command{Kind: api.CommandCall, Token: 1, Session: 2, Number: 3, Mark: 4, Call: parsed("get t k; swap t k +o v")}
}

// others are commands with one field other than c's each.
func others(c func() api.Command) []api.Command {
	var l []api.Command
	for i, set := range []func(*api.Command){
		func(c *api.Command) { c.Kind = 9 }, func(c *api.Command) { c.Kind = -c.Kind }, func(c *api.Command) { c.Kind++ },
		func(c *api.Command) { c.Token = 7 }, func(c *api.Command) { c.Token = math.MinInt64 }, func(c *api.Command) { c.Token += 1 << 32 },
		func(c *api.Command) { c.Session = 7 }, func(c *api.Command) { c.Session = math.MaxInt64 }, func(c *api.Command) { c.Session += 1 << 32 },
		func(c *api.Command) { c.Number = 7 }, func(c *api.Command) { c.Number = -1 }, func(c *api.Command) { c.Number += 1 << 32 },
		func(c *api.Command) { c.Mark = 7 }, func(c *api.Command) { c.Mark = -1 }, func(c *api.Command) { c.Mark += 1 << 32 },
		func(c *api.Command) { c.Call = parsed("get t k") }, func(c *api.Command) { c.Call = parsed("get t k; swap t k +o w") }, func(c *api.Command) { c.Call = parsed("get t l; swap t k +o v") },
		func(c *api.Command) { c.Call = api.Call{Ops: []api.Op{{}}} },
	} {
		l = append(l, c())
		set(&l[i])
	}
	return l
}

// P9.1: Same goes by all fields, of commands that may not be, too.
func TestSame(t *testing.T) {
	zero := func() api.Command { return api.Command{} }
	wantSame(t, full(), full(), true)
	wantSame(t, zero(), zero(), true)
	wantSame(t, zero(), full(), false)
	for i, c := range others(full) {
		wantSame(t, c, full(), false)
		wantSame(t, c, others(full)[i], true)
	}
	// The kind -0 is the kind 0.
	for _, c := range append(others(zero)[:1], others(zero)[2:]...) {
		wantSame(t, c, zero(), false)
		wantSame(t, c, c, true)
	}
	for i, a := range eachKind() {
		for j, b := range eachKind() {
			wantSame(t, a, b, i == j)
		}
	}
	without := full()
	without.Call = api.Call{}
	wantSame(t, without, full(), false)
	// What stands in another field is not the same.
	wantSame(t, api.Command{Token: 1}, api.Command{Session: 1}, false)
	wantSame(t, api.Command{Number: 1}, api.Command{Mark: 1}, false)
	wantSame(t, api.Command{Session: 1, Number: 2}, api.Command{Session: 2, Number: 1}, false)
}

// P9.1: nil and empty lists are the same, within calls too.
func TestSameOfEmptyLists(t *testing.T) {
	none := []byte{}
	a, b := open(5), open(5)
	b.Call.Ops = []api.Op{}
	wantSame(t, a, b, true)
	a = calling(1, 2, 0, parsed("get t k"))
	b = calling(1, 2, 0, api.Call{Ops: []api.Op{{Kind: api.Get, Table: "t", Key: []byte("k"), Value: none, Old: none, To: none}}})
	wantSame(t, a, b, true)
	wantTaken(t, b)
}

// P9.1: only a Call changes something, if it may be and its call does not only read.
func TestChanges(t *testing.T) {
	for text, want := range map[string]bool{
		"get t k": false, "scan t % % 5": false, "get t k; scan t % % 5; get u k": false, "put t k v": true, "delete t k": true, "swap t k - v": true, "swap t k +a a": true,
		"get t k; put t k v": true, "put t k v; get t k": true, "scan t % % 5; delete t k; scan t % % 5": true,
	} {
		c := calling(1, 2, 0, parsed(text))
		if command.Changes(c) != want {
			t.Errorf("Changes(%q): %v", text, !want)
		}
		for _, set := range []func(*api.Command){
			func(c *api.Command) { c.Token = 1 }, func(c *api.Command) { c.Session = 0 }, func(c *api.Command) { c.Session = -1 }, func(c *api.Command) { c.Number = 0 }, func(c *api.Command) { c.Mark = 2 }, func(c *api.Command) { c.Mark = -1 },
			func(c *api.Command) { c.Kind = api.CommandOpen }, func(c *api.Command) { c.Kind = api.CommandClose }, func(c *api.Command) { c.Kind = api.CommandExpire }, func(c *api.Command) { c.Kind = 0 }, func(c *api.Command) { c.Kind = 5 },
		} {
			wrong := c
			set(&wrong)
			if command.Changes(wrong) {
				t.Errorf("Changes(%v): true", wrong)
			}
		}
	}
	for _, c := range []api.Command{{}, open(5), open(0), closing(3), closing(0), expire(3), calling(1, 1, 0, api.Call{})} {
		if command.Changes(c) {
			t.Errorf("Changes(%v): true", c)
		}
	}
	for _, c := range wrongCalls() {
		if command.Changes(calling(1, 1, 0, c)) {
			t.Errorf("Changes(%.200v): true", c)
		}
	}
	if !command.Changes(calling(1, 1, 0, sized(4096))) {
		t.Error("Changes of 4096 bytes: false")
	}
}
