package calls_test

import (
	"math"
	"math/rand"
	"testing"

	"wicket/api"
	"wicket/calls"
)

// wantSame asks both ways round.
func wantSame(t *testing.T, a, b api.Call, want bool) {
	t.Helper()
	if calls.Same(a, b) != want || calls.Same(b, a) != want {
		t.Errorf("Same(%v, %v): %v, %v", a, b, calls.Same(a, b), calls.Same(b, a))
	}
}

func wantAlike(t *testing.T, a, b api.Result, want bool) {
	t.Helper()
	if calls.Alike(a, b) != want || calls.Alike(b, a) != want {
		t.Errorf("Alike(%v, %v): %v, %v", a, b, calls.Alike(a, b), calls.Alike(b, a))
	}
}

// full is an op with all fields, which may not be.
func full() api.Op {
	return api.Op{Kind: api.Swap, Table: "t", Key: []byte("k"), Value: []byte("v"), Has: true, Old: []byte("o"), To: []byte("z"), Most: 3}
}

// otherOps are full ops, each with one field other.
func otherOps() []api.Op {
	var l []api.Op
	for i, set := range []func(*api.Op){
		func(op *api.Op) { op.Kind = api.Put }, func(op *api.Op) { op.Table = "u" }, func(op *api.Op) { op.Table = "" }, func(op *api.Op) { op.Table = "T" },
		func(op *api.Op) { op.Key = []byte("l") }, func(op *api.Op) { op.Key = nil }, func(op *api.Op) { op.Key = []byte("k\x00") },
		func(op *api.Op) { op.Value = []byte("w") }, func(op *api.Op) { op.Value = nil }, func(op *api.Op) { op.Value = []byte("vv") },
		func(op *api.Op) { op.Has = false }, func(op *api.Op) { op.Old = []byte("p") }, func(op *api.Op) { op.Old = nil },
		func(op *api.Op) { op.To = []byte("y") }, func(op *api.Op) { op.To = nil }, func(op *api.Op) { op.Most = 4 }, func(op *api.Op) { op.Most = math.MinInt },
	} {
		l = append(l, full())
		set(&l[i])
	}
	return l
}

// P6.3: Same goes by all fields, of calls that may not be, too.
func TestSame(t *testing.T) {
	wantSame(t, call(full()), call(full()), true)
	for _, op := range otherOps() {
		wantSame(t, call(full()), call(op), false)
		wantSame(t, call(op, full()), call(full(), full()), false)
		wantSame(t, call(full(), op), call(full(), full()), false)
		wantSame(t, call(full(), op), call(op, full()), false)
		wantSame(t, call(op, op), call(op, op), true)
	}
	wantSame(t, api.Call{}, call(full()), false)
	wantSame(t, call(full()), call(full(), full()), false)
	wantSame(t, call(), call(api.Op{}), false)
	wantSame(t, call(api.Op{}), call(api.Op{}), true)
	wantSame(t, times(40, full()), times(40, full()), true)
	wantSame(t, times(40, full()), times(39, full()), false)
}

// P6.3: nil and empty lists are the same.
func TestSameOfEmptyLists(t *testing.T) {
	none := []byte{}
	wantSame(t, api.Call{}, api.Call{Ops: []api.Op{}}, true)
	wantSame(t, call(api.Op{}), call(api.Op{Key: none, Value: none, Old: none, To: none}), true)
	wantSame(t, call(get("t", "k")), call(api.Op{Kind: api.Get, Table: "t", Key: []byte("k"), Value: none, Old: none, To: none}), true)
	wantAlike(t, api.Result{}, api.Result{Outs: []api.Out{}}, true)
	wantAlike(t, outs(api.Out{}), outs(api.Out{Value: none, Rows: []api.Row{}}), true)
	wantAlike(t, outs(api.Out{Rows: []api.Row{{}}}), outs(api.Out{Rows: []api.Row{{Key: none, Value: none}}}), true)
}

// P6.3: Alike goes by all fields, of results that may not be, too.
func TestAlike(t *testing.T) {
	out := func() api.Out {
		return api.Out{Has: true, Value: []byte("v"), Rows: []api.Row{{Key: []byte("k"), Value: []byte("w")}, {Key: []byte("j"), Value: []byte("x")}}}
	}
	whole := func() api.Result {
		return api.Result{Abort: api.AbortRows, Place: 3, Outs: []api.Out{out(), out()}}
	}
	wantAlike(t, whole(), whole(), true)
	for _, set := range []func(*api.Result){
		func(r *api.Result) { r.Abort = api.AbortBytes }, func(r *api.Result) { r.Abort = -1 }, func(r *api.Result) { r.Place = 4 }, func(r *api.Result) { r.Place = math.MinInt },
		func(r *api.Result) { r.Outs = nil }, func(r *api.Result) { r.Outs = r.Outs[:1] }, func(r *api.Result) { r.Outs = append(r.Outs, api.Out{}) },
		func(r *api.Result) { r.Outs[0].Has = false }, func(r *api.Result) { r.Outs[1].Has = false }, func(r *api.Result) { r.Outs[1].Value = nil }, func(r *api.Result) { r.Outs[1].Value = []byte("u") },
		func(r *api.Result) { r.Outs[1].Rows = nil }, func(r *api.Result) { r.Outs[0].Rows = r.Outs[0].Rows[:1] }, func(r *api.Result) { r.Outs[0].Rows = append(r.Outs[0].Rows, api.Row{}) },
		func(r *api.Result) { r.Outs[1].Rows[1].Key = []byte("i") }, func(r *api.Result) { r.Outs[1].Rows[1].Value = []byte("y") }, func(r *api.Result) { r.Outs[1].Rows[0].Value = nil },
		func(r *api.Result) { r.Outs[1].Rows[0], r.Outs[1].Rows[1] = r.Outs[1].Rows[1], r.Outs[1].Rows[0] },
	} {
		other := whole()
		set(&other)
		wantAlike(t, whole(), other, false)
		wantAlike(t, other, other, true)
	}
}

// P6.4: same calls have one form and one text, other calls have others; so of results.
func TestSameCallsHaveOneForm(t *testing.T) {
	r := rand.New(rand.NewSource(65))
	sames := 0
	for range 200 {
		var l []api.Call
		var x []api.Result
		for range 8 {
			l = append(l, call(someOp(r)), times(1+r.Intn(2), get("t", string("ab"[r.Intn(2)]))))
			x = append(x, someResult(r))
		}
		for _, a := range l {
			for _, b := range l {
				form, _ := calls.Bytes(a)
				other, _ := calls.Bytes(b)
				text, _ := calls.Text(a)
				otherText, _ := calls.Text(b)
				is := calls.Same(a, b)
				if is != (string(form) == string(other)) || is != (text == otherText) {
					t.Errorf("Same(%.100q, %.100q): %v", text, otherText, is)
				}
				if is {
					sames++
				}
			}
		}
		for _, a := range x {
			for _, b := range x {
				form, _ := calls.Result(a)
				other, _ := calls.Result(b)
				if calls.Alike(a, b) != (string(form) == string(other)) {
					t.Errorf("Alike(%.100v, %.100v): %v", a, b, calls.Alike(a, b))
				}
			}
		}
	}
	if sames < 200*20 {
		t.Errorf("%d are the same", sames)
	}
}

// P6.4: what was written is read as it was; what is read is what is written of it.
func TestWrittenIsRead(t *testing.T) {
	r := rand.New(rand.NewSource(66))
	for range 3000 {
		c, x := someCall(r), someResult(r)
		if b, e := calls.Bytes(c); e == api.OK {
			read, e := calls.Read(b)
			text, e2 := calls.Text(c)
			parsed, e3 := calls.Parse(text)
			if e != api.OK || e2 != api.OK || e3 != api.OK || !calls.Same(read, c) || !calls.Same(parsed, c) || !same(read, c) || !same(parsed, c) {
				t.Errorf("%.100q: %v, %v, %v", text, e, e2, e3)
			}
		}
		b, e := calls.Result(x)
		read, e2 := calls.ReadResult(b)
		if e != api.OK || e2 != api.OK || !calls.Alike(read, x) || !alike(read, x) {
			t.Errorf("%.100v: %v, %v", x, e, e2)
		}
	}
}
