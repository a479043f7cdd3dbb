package engine_test

import (
	"slices"
	"testing"

	"wicket/api"
	"wicket/engine"
)

func wantSame(t *testing.T, what string, a, b *engine.Engine, want bool) {
	t.Helper()
	if got := a.Same(b); got != want {
		t.Errorf("%s: Same is %v", what, got)
	}
	if got := b.Same(a); got != want {
		t.Errorf("%s: Same the other way round is %v", what, got)
	}
}

// P8.4: a copy has this one's rows and quota, and is another database.
func TestCopyHasRowsAndQuota(t *testing.T) {
	q := api.Quota{Rows: 1000, Bytes: 20000}
	for _, text := range []string{"", "t/a=1", "t/a=1 t/b= u/a=33", namedText(many(1000, 30))} {
		e := made(t, q, text)
		c := e.Copy()
		if c == nil || c == e {
			t.Fatalf("Copy of %.40q is none, or the same one", text)
		}
		wantRows(t, "Copy", c, text)
		wantSame(t, "Copy", e, c, true)
		if c.Quota() != q || !slices.Equal(c.Tables(), e.Tables()) {
			t.Errorf("Quota, Tables of a Copy: %v, %.80q", c.Quota(), c.Tables())
		}
	}
}

// P8.4: both go on apart, whatever is done to whichever of them first.
func TestCopyGoesOnApart(t *testing.T) {
	const all = "t/b=1 t/d=2 u/b=3"
	for _, x := range [][2]string{
		{"put t a 9", "t/a=9 t/b=1 t/d=2 u/b=3"}, {"put t c 9", "t/b=1 t/c=9 t/d=2 u/b=3"}, {"put t e 9", "t/b=1 t/d=2 t/e=9 u/b=3"}, {"put t b 9", "t/b=9 t/d=2 u/b=3"},
		{"put u b %", "t/b=1 t/d=2 u/b="}, {"put a a 1", "a/a=1 t/b=1 t/d=2 u/b=3"}, {"put z a 1", "t/b=1 t/d=2 u/b=3 z/a=1"}, {"delete t b", "t/d=2 u/b=3"}, {"delete t d", "t/b=1 u/b=3"},
		{"delete u b", "t/b=1 t/d=2"}, {"delete t b; delete t d; delete u b", ""}, {"swap t d +2 7", "t/b=1 t/d=7 u/b=3"}, {"swap t z - 7", "t/b=1 t/d=2 t/z=7 u/b=3"},
	} {
		e := made(t, wide, all)
		c := e.Copy()
		c.Do(parsed(t, x[0]))
		wantRows(t, "the database behind its copy's "+x[0], e, all)
		wantRows(t, "the copy behind "+x[0], c, x[1])
		wantSame(t, "the database and its changed copy", e, c, false)

		c = e.Copy()
		e.Do(parsed(t, x[0]))
		wantRows(t, "the copy behind the database's "+x[0], c, all)
		wantRows(t, "the database behind "+x[0], e, x[1])
		c.Do(parsed(t, x[0]))
		wantSame(t, "both behind the same call", e, c, true)
	}
}

// P8.4: copies of copies, and such that are made while rows are gone over.
func TestCopyByTheWay(t *testing.T) {
	e := made(t, wide, "t/a=1 t/b=2 u/a=3")
	var copies []*engine.Engine
	for r := range e.All() {
		copies = append(copies, e.Copy().Copy())
		e.Do(call(api.Op{Kind: api.Delete, Table: r.Table, Key: r.Key}))
	}
	for i, want := range []string{"t/a=1 t/b=2 u/a=3", "t/b=2 u/a=3", "u/a=3"} {
		wantRows(t, "a copy by the way", copies[i], want)
	}
	over := copies[0].All()
	wantDo(t, copies[0].Copy(), "put t c 4", "-")
	wantNamed(t, "All behind a copy's put", listed(over), rows("t/a=1 t/b=2 u/a=3"))
}

// P8.4: the same rows: each table, each key, each value, as many; and the same quota.
func TestSame(t *testing.T) {
	l := []string{
		"", "t/a=", "t/a=1", "t/a=2", "t/a=11", "t/b=1", "t/aa=1", "t/a1=", "u/a=1", "ta/a=1", "t/a=1 t/b=2", "t/a=1 u/b=2", "t/a=1 t/b=", "t/a=1 t/c=2", "t/a=2 t/b=1", "t/a=1 u/a=1", "s/a=1 t/a=1",
		"t/a=1 t/b=2 u/a=3", "t/a=1 t/b=2 v/a=3", "t/a=1 u/a=2 u/b=3", "t/b=1 t/c=2 u/a=3",
	}
	for i, a := range l {
		for j, b := range l {
			wantSame(t, a+" and "+b, made(t, wide, a), made(t, wide, b), i == j)
		}
	}
	quotas := []api.Quota{{Rows: 5, Bytes: 9}, {Rows: 6, Bytes: 9}, {Rows: 5, Bytes: 10}, {Rows: 9, Bytes: 5}, wide}
	for i, a := range quotas {
		for j, b := range quotas {
			wantSame(t, "two quotas, no rows", made(t, a, ""), made(t, b, ""), i == j)
			wantSame(t, "two quotas, one row", made(t, a, "t/a=1"), made(t, b, "t/a=1"), i == j)
		}
	}
	e := made(t, wide, "t/a=1")
	wantSame(t, "a database and itself", e, e, true)
}

// P8.4: how the rows came there does not matter; tables that have none any more do not, either.
func TestSameByOtherWays(t *testing.T) {
	e := made(t, wide, "t/a=1 t/b=2 u/a=3")
	o := made(t, wide, "")
	for _, text := range []string{"put u a 9", "put v a 1", "put t b 2", "put t a 1; put w b 5", "get x a", "delete y a"} {
		o.Do(parsed(t, text))
		wantSame(t, "other rows", e, o, false)
	}
	wantDo(t, o, "swap u a +9 3; delete v a", "+; +")
	wantSame(t, "one row more", e, o, false)
	wantDo(t, o, "delete w b", "+")
	wantSame(t, "the same rows", e, o, true)
	wantDo(t, o, "delete t a; delete t b; delete u a", "+; +; +")
	wantSame(t, "no rows any more", o, e, false)
	wantSame(t, "no rows any more, and none at all", o, made(t, wide, ""), true)
}
