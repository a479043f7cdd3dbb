package engine_test

import (
	"bytes"
	"math/rand"
	"slices"
	"strings"
	"testing"

	"wicket/api"
	"wicket/calls"
	"wicket/engine"
)

// spot is where a row stands.
type spot struct{ table, key string }

// plain is a database as DOC.md says it: values by tables and keys, looked through whole whenever something is asked.
type plain struct {
	quota api.Quota
	rows  map[spot]string
}

func (p plain) copy() plain {
	c := plain{p.quota, map[spot]string{}}
	for at, value := range p.rows {
		c.rows[at] = value
	}
	return c
}

func (p plain) size() int {
	size := 0
	for at, value := range p.rows {
		size += len(at.key) + len(value)
	}
	return size
}

func (p plain) all() []api.Named {
	var l []api.Named
	for at, value := range p.rows {
		l = append(l, api.Named{Table: at.table, Key: []byte(at.key), Value: []byte(value)})
	}
	slices.SortFunc(l, func(a, b api.Named) int {
		if a.Table != b.Table {
			return strings.Compare(a.Table, b.Table)
		}
		return bytes.Compare(a.Key, b.Key)
	})
	return l
}

func (p plain) tables() []string {
	var l []string
	for _, r := range p.all() {
		l = append(l, r.Table)
	}
	return slices.Compact(l)
}

// do is the database behind a call that may be, and the result.
func (p plain) do(c api.Call) (plain, api.Result) {
	draft := p.copy()
	var outs []api.Out
	for place, op := range c.Ops {
		out, why := draft.op(op)
		if why != api.AbortNone {
			return p.copy(), api.Result{Abort: why, Place: place}
		}
		outs = append(outs, out)
	}
	return draft, api.Result{Outs: outs}
}

func (p plain) op(op api.Op) (api.Out, api.Abort) {
	at := spot{op.Table, string(op.Key)}
	value, is := p.rows[at]
	if op.Kind == api.Get {
		return api.Out{Has: is, Value: []byte(value)}, api.AbortNone
	}
	if op.Kind == api.Scan {
		return api.Out{Rows: p.scan(op)}, api.AbortNone
	}
	if op.Kind == api.Swap && (is != op.Has || value != string(op.Old)) {
		return api.Out{}, api.AbortOther
	}
	if op.Kind == api.Delete {
		delete(p.rows, at)
	} else {
		p.rows[at] = string(op.Value)
	}
	if len(p.rows) > p.quota.Rows {
		return api.Out{}, api.AbortRows
	}
	if p.size() > p.quota.Bytes {
		return api.Out{}, api.AbortBytes
	}
	return api.Out{Has: is}, api.AbortNone
}

func (p plain) scan(op api.Op) []api.Row {
	var l []api.Row
	for _, r := range p.all() {
		key := string(r.Key)
		if r.Table == op.Table && key >= string(op.Key) && (len(op.To) == 0 || key < string(op.To)) && len(l) < op.Most {
			l = append(l, api.Row{Key: r.Key, Value: r.Value})
		}
	}
	return l
}

// both is a database and what it must be.
type both struct {
	e *engine.Engine
	p plain
}

func someOf(r *rand.Rand, l ...string) string {
	return l[r.Intn(len(l))]
}

func someTable(r *rand.Rand) string {
	return someOf(r, "t", "t", "t", "u", "t0", strings.Repeat("z", 16))
}

func someKey(r *rand.Rand) string {
	return someOf(r, "a", "b", "c", "ab", "\x00", "\xff", "a\x00", strings.Repeat("k", 64))
}

func someValue(r *rand.Rand) string {
	return someOf(r, "", "", "1", "2", "22", "a", strings.Repeat("v", r.Intn(30)), strings.Repeat("w", 256))
}

// someOp is an op that may be; a Swap's Old is often what is there.
func someOp(r *rand.Rand, p plain) api.Op {
	op := api.Op{Kind: api.OpKind(1 + r.Intn(5)), Table: someTable(r), Key: []byte(someKey(r))}
	switch op.Kind {
	case api.Put:
		op.Value = []byte(someValue(r))
	case api.Swap:
		old, is := p.rows[spot{op.Table, string(op.Key)}]
		if r.Intn(6) == 0 {
			old, is = someValue(r), true
		}
		if r.Intn(6) == 0 {
			old, is = "", false
		}
		op.Has, op.Old, op.Value = is, []byte(old), []byte(someValue(r))
	case api.Scan:
		op.Key = []byte(someOf(r, "", "", someKey(r)))
		op.To = []byte(someOf(r, "", "", someKey(r)))
		op.Most = 1 + r.Intn(5)*r.Intn(16)
	}
	return op
}

// someCall is a call that may be, but for a few.
func someCall(r *rand.Rand, p plain) api.Call {
	var c api.Call
	for range 1 + r.Intn(1+r.Intn(16)) {
		c.Ops = append(c.Ops, someOp(r, p))
	}
	switch r.Intn(40) {
	case 0:
		c.Ops[r.Intn(len(c.Ops))].Table = someOf(r, "", "T", strings.Repeat("z", 17))
	case 1:
		c.Ops[r.Intn(len(c.Ops))].Kind = api.OpKind(r.Intn(2) * 6)
	case 2:
		c.Ops = c.Ops[:0]
	case 3:
		for range 16 {
			c.Ops = append(c.Ops, put("t", "a", strings.Repeat("v", 256)))
		}
		c.Ops = c.Ops[len(c.Ops)-16:]
	}
	return c
}

// do does a call to both, by Do, or by Try or Look ahead of it, and tells what was answered.
func (b *both) do(t *testing.T, r *rand.Rand, c api.Call) {
	t.Helper()
	want := calls.Check(c)
	behind, result := b.p.copy(), api.Result{}
	if want == api.OK {
		behind, result = b.p.do(c)
	}
	if r.Intn(2) == 0 {
		b.tries(t, c, behind, result, want)
		b.looks(t, c, result, want)
		b.look(t)
	}
	got, e := b.e.Do(c)
	if e != want || told(got) != told(result) {
		t.Fatalf("Do(%s): %s, %v, not %s, %v", written(c), told(got), e, told(result), want)
	}
	b.p = behind
	b.look(t)
}

func (b *both) tries(t *testing.T, c api.Call, behind plain, result api.Result, want api.Errno) {
	t.Helper()
	o, got, e := b.e.Try(c)
	if e != want || told(got) != told(result) || (o != nil) != (want == api.OK) {
		t.Fatalf("Try(%s): %s, %v, not %s, %v", written(c), told(got), e, told(result), want)
	}
	if want == api.OK {
		(&both{o, behind}).look(t)
	}
}

func (b *both) looks(t *testing.T, c api.Call, result api.Result, want api.Errno) {
	t.Helper()
	if want == api.OK && !calls.Reads(c) {
		result, want = api.Result{}, api.ErrArg
	}
	if got, e := b.e.Look(c); e != want || told(got) != told(result) {
		t.Fatalf("Look(%s): %s, %v, not %s, %v", written(c), told(got), e, told(result), want)
	}
}

// look holds all that is told of both against each other.
func (b *both) look(t *testing.T) {
	t.Helper()
	all := b.p.all()
	wantNamed(t, "All", listed(b.e.All()), all)
	if b.e.Len() != len(all) || b.e.Size() != b.p.size() || b.e.Quota() != b.p.quota {
		t.Fatalf("Len, Size, Quota: %d, %d, %v, not %d, %d, %v", b.e.Len(), b.e.Size(), b.e.Quota(), len(all), b.p.size(), b.p.quota)
	}
	if got := b.e.Tables(); !slices.Equal(got, b.p.tables()) {
		t.Fatalf("Tables: %q, not %q", got, b.p.tables())
	}
}

// P8.1 to P8.4: any calls to several databases, copies of each other and such that Try told, against DOC.md's words; rows
// that are gone over while all of them change stand as they did.
func TestAnyCalls(t *testing.T) {
	count := map[api.Abort]int{}
	for seed := range int64(60) {
		r := rand.New(rand.NewSource(800 + seed))
		q := api.Quota{Rows: 1 + r.Intn(12), Bytes: 1 + r.Intn(1+r.Intn(700))}
		l := []*both{{madeOf(t, q), plain{q, map[spot]string{}}}}
		for range 150 {
			at := r.Intn(len(l))
			c := someCall(r, l[at].p)
			if result, _ := l[at].e.Copy().Do(c); len(c.Ops) > 0 {
				count[result.Abort]++
			}
			l[at].do(t, r, c)
			switch r.Intn(15) {
			case 0:
				l = grown(r, l, &both{l[at].e.Copy(), l[at].p.copy()})
			case 1:
				l = grown(r, l, &both{madeOf(t, q, l[at].p.all()...), l[at].p.copy()})
			case 2:
				l = grown(r, l, tried(t, l[at], someOp(r, l[at].p)))
			case 3:
				changeByTheWay(t, r, l, at)
			}
			other := r.Intn(len(l))
			l[other].look(t)
			wantSame(t, "two of them", l[at].e, l[other].e, namedText(l[at].p.all()) == namedText(l[other].p.all()))
		}
	}
	for why := api.AbortNone; why <= api.AbortBytes; why++ {
		if count[why] < 200 {
			t.Errorf("%d calls with the abort %d", count[why], why)
		}
	}
}

// grown has one more, or one instead of another, if there are many.
func grown(r *rand.Rand, l []*both, b *both) []*both {
	if len(l) < 6 {
		return append(l, b)
	}
	l[r.Intn(len(l))] = b
	return l
}

func tried(t *testing.T, b *both, op api.Op) *both {
	t.Helper()
	o, _, e := b.e.Try(api.Call{Ops: []api.Op{op}})
	if e != api.OK {
		t.Fatalf("Try: %v", e)
	}
	behind, _ := b.p.do(api.Call{Ops: []api.Op{op}})
	return &both{o, behind}
}

// changeByTheWay goes over one database while all of them change, and leaves it sometimes.
func changeByTheWay(t *testing.T, r *rand.Rand, l []*both, at int) {
	t.Helper()
	want := l[at].p.all()
	most := 1 + r.Intn(len(want)+3)
	var got []api.Named
	for row := range l[at].e.All() {
		got = append(got, row)
		l[at].do(t, r, someCall(r, l[at].p))
		other := r.Intn(len(l))
		l[other].do(t, r, someCall(r, l[other].p))
		if len(got) == most {
			break
		}
	}
	wantNamed(t, "going over by the way", got, want[:min(most, len(want))])
}
