package client_test

import (
	"fmt"
	"strings"
	"testing"

	"wicket/api"
	"wicket/calls"
	"wicket/client"
)

// wantInvoke: the call has that id, and that came of it; it is open, behind the others, if OutcomeOpen, else nothing changes.
func wantInvoke(t *testing.T, k *client.Client, c api.Call, id int64, what api.Outcome) {
	t.Helper()
	want := see(k)
	if what == api.OutcomeOpen {
		want += fmt.Sprint(" ", id)
	}
	if n, o := k.Invoke(c); n != id || o != what {
		t.Errorf("Invoke: %d, %s, want %d, %s", n, outcome(o), id, outcome(what))
	}
	if got := see(k); got != want {
		t.Errorf("behind Invoke that answers %s: %s, want %s", outcome(what), got, want)
	}
}

func long(n int) []byte {
	return []byte(strings.Repeat("x", n))
}

// P18.1: calls at all bounds that may be are open, and are sent as they are.
func TestInvokeWhatMayBe(t *testing.T) {
	most := make([]api.Op, api.MaxOps)
	for i := range most {
		most[i] = api.Op{Kind: api.Delete, Table: "t", Key: []byte{byte(i)}}
	}
	all := []api.Call{
		parsed("get t k"), parsed("put t k %"), parsed("delete t %00"), parsed("swap t k - b"), parsed("swap t k +% b"), parsed("scan t % % 64"), parsed("scan t a z 1"),
		parsed("put t k v; get t k; scan t k % 5"), {Ops: most}, sized(4096), sized(4095), sized(2161),
		{Ops: []api.Op{{Kind: api.Put, Table: "0123456789abcdef", Key: long(64), Value: long(256)}}},
		{Ops: []api.Op{{Kind: api.Swap, Table: "z", Key: long(64), Has: true, Old: long(256), Value: long(256)}}},
		{Ops: []api.Op{{Kind: api.Scan, Table: "z", Key: long(64), To: long(64), Most: 64}}},
	}
	k := made(t, 1, work(64, 64, 5))
	for i, c := range all {
		wantInvoke(t, k, c, int64(i+1), api.OutcomeOpen)
	}
	k.Hear(tells(1, reply("opened 2 5")))
	l, e := k.Step(0)
	if e != api.OK || len(l) != len(all) {
		t.Fatalf("%d are sent, %v", len(l), e)
	}
	for i, m := range l {
		want := api.Command{Kind: api.CommandCall, Session: 5, Number: int64(i + 1), Mark: 0}
		got := m.Ask
		got.Call = api.Call{}
		if fmt.Sprint(got) != fmt.Sprint(want) || !calls.Same(m.Ask.Call, all[i]) {
			t.Errorf("%d: %v is sent", i+1, m)
		}
	}
}

// wrongCalls are such as may not be.
func wrongCalls() []api.Call {
	one := func(op api.Op) api.Call { return api.Call{Ops: []api.Op{op}} }
	spoilt := sized(api.MaxCall + 1)
	spoilt.Ops[15].Table = "T"
	tooMany := make([]api.Op, api.MaxOps+1)
	for i := range tooMany {
		tooMany[i] = api.Op{Kind: api.Get, Table: "t", Key: []byte("k")}
	}
	return []api.Call{
		{}, {Ops: []api.Op{}}, {Ops: make([]api.Op, 1)}, {Ops: tooMany}, {Ops: make([]api.Op, 5000)}, spoilt,
		one(api.Op{Kind: 6, Table: "t", Key: []byte("k")}), one(api.Op{Kind: -1, Table: "t", Key: []byte("k")}), one(api.Op{Kind: api.Get, Table: "", Key: []byte("k")}),
		one(api.Op{Kind: api.Get, Table: "0123456789abcdefg", Key: []byte("k")}), one(api.Op{Kind: api.Get, Table: "t"}), one(api.Op{Kind: api.Get, Table: "t", Key: long(65)}),
		one(api.Op{Kind: api.Put, Table: "t", Key: []byte("k"), Value: long(257)}), one(api.Op{Kind: api.Get, Table: "t", Key: []byte("k"), Value: []byte("v")}),
		one(api.Op{Kind: api.Swap, Table: "t", Key: []byte("k"), Old: []byte("o")}), one(api.Op{Kind: api.Scan, Table: "t"}), one(api.Op{Kind: api.Scan, Table: "t", Most: 65}),
		one(api.Op{Kind: api.Put, Table: "t", Key: long(1 << 20), Value: long(1 << 20)}),
		{Ops: []api.Op{{Kind: api.Get, Table: "t", Key: []byte("k")}, {Kind: api.Get, Table: "t"}}},
	}
}

// P18.1: what may not be is Rejected, what is too long Large, in any state; their ids are used.
func TestInvokeWhatMayNotBe(t *testing.T) {
	asking := play(t, made(t, 0, work(2, 9, 5)), "invoke get t k", "1 open", "step 0", "0: open 1")
	for _, k := range []*client.Client{made(t, 0, work(2, 9, 5)), asking, ready(t, 2, 9, 5, 4), ready(t, 2, 2, 5, 2)} {
		id, _ := k.Copy().Invoke(parsed("get t k"))
		for _, c := range wrongCalls() {
			wantInvoke(t, k, c, id, api.OutcomeRejected)
			id++
		}
		for _, bytes := range []int{4097, 4098, 4200, 4209} {
			wantInvoke(t, k, sized(bytes), id, api.OutcomeLarge)
			id++
		}
		play(t, k, "invoke wrong", fmt.Sprint(id, " rejected"), "invoke large", fmt.Sprint(id+1, " large"))
	}
}

// P18.1: as many calls are open as may be, one more is Busy, unless it is Rejected or Large; each return makes room for one.
func TestInvokeBusy(t *testing.T) {
	for _, wait := range []int{1, 2, 3, 64, 65, 1024} {
		k := made(t, 0, work(2, wait, 5))
		for i := range wait {
			wantInvoke(t, k, parsed("get t k"), int64(i+1), api.OutcomeOpen)
		}
		id := int64(wait)
		busy := func() {
			t.Helper()
			wantInvoke(t, k, parsed("get t k"), id+1, api.OutcomeBusy)
			wantInvoke(t, k, sized(4096), id+2, api.OutcomeBusy)
			wantInvoke(t, k, api.Call{}, id+3, api.OutcomeRejected)
			wantInvoke(t, k, sized(4097), id+4, api.OutcomeLarge)
			id += 4
		}
		busy()
		do(k, "step 1")
		busy()
		do(k, "opened 1 9")
		busy()
		do(k, "step 2")
		busy()
		if n := len(k.Hear(tells(0, reply("answered 9 1")))); n != 1 {
			t.Fatalf("%d returned", n)
		}
		id++
		wantInvoke(t, k, parsed("put t k v"), id, api.OutcomeOpen)
		busy()
		do(k, "step 3")
		do(k, "leave")
		id++
		wantInvoke(t, k, parsed("put t k v"), id, api.OutcomeOpen)
		if wait == 1 {
			busy()
		}
	}
}

// P18.1: Invoke sends nothing and hangs on no session: it is open behind the others, with a number or without.
func TestInvokeInASession(t *testing.T) {
	play(t, ready(t, 2, 9, 5, 3), "see", "0: token 1 session 9 mark 0: 1#1@7 2#2@7 3", "invoke get t k", "4 open", "see", "0: token 1 session 9 mark 0: 1#1@7 2#2@7 3 4",
		"answered 9 1", "1 result 9 1", "invoke get t k", "5 open", "see", "0: token 1 session 9 mark 1: 2#2@7 3 4 5", "step 7", "0: call 9 3 1 get t k",
		"see", "0: token 1 session 9 mark 1: 2#2@7 3#3@7 4 5", "invoke wrong", "6 rejected", "invoke get t k", "7 open", "see", "0: token 1 session 9 mark 1: 2#2@7 3#3@7 4 5 7")
}
