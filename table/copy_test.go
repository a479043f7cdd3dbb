package table_test

import (
	"slices"
	"testing"

	"wicket/api"
	"wicket/table"
)

func wantSame(t *testing.T, what string, a, b *table.Table, want bool) {
	t.Helper()
	if got := a.Same(b); got != want {
		t.Errorf("%s: Same is %v", what, got)
	}
	if got := b.Same(a); got != want {
		t.Errorf("%s: Same the other way round is %v", what, got)
	}
}

// P7.4: a copy has these rows, and is another table.
func TestCopyHasTheRows(t *testing.T) {
	for _, text := range []string{"", "a=1", "a=1 b= c=33", texts(manyRows(1000))} {
		x := made(t, text)
		c := x.Copy()
		if c == nil || c == x {
			t.Fatalf("Copy of %.40q is none, or the same one", text)
		}
		wantRows(t, "Copy", c, text)
		wantSame(t, "Copy", x, c, true)
		wantGone(t, "All of a Copy", c.All(), text)
		if c.Len() != x.Len() || c.Size() != x.Size() {
			t.Errorf("Len, Size of a Copy: %d, %d, not %d, %d", c.Len(), c.Size(), x.Len(), x.Size())
		}
	}
}

// P7.4: both go on apart, whatever is put and taken out, wherever, in whichever of them first.
func TestCopyGoesOnApart(t *testing.T) {
	const all = "b=1 d=2 f=3"
	for _, change := range []struct {
		do   func(x *table.Table)
		want string
	}{
		{func(x *table.Table) { x.Put([]byte("a"), []byte("9")) }, "a=9 b=1 d=2 f=3"},
		{func(x *table.Table) { x.Put([]byte("c"), []byte("9")) }, "b=1 c=9 d=2 f=3"},
		{func(x *table.Table) { x.Put([]byte("g"), []byte("9")) }, "b=1 d=2 f=3 g=9"},
		{func(x *table.Table) { x.Put([]byte("h"), []byte("8")) }, "b=1 d=2 f=3 h=8"},
		{func(x *table.Table) { x.Put([]byte("b"), []byte("9")) }, "b=9 d=2 f=3"},
		{func(x *table.Table) { x.Put([]byte("d"), []byte("9")) }, "b=1 d=9 f=3"},
		{func(x *table.Table) { x.Put([]byte("f"), nil) }, "b=1 d=2 f="},
		{func(x *table.Table) { x.Delete([]byte("b")) }, "d=2 f=3"},
		{func(x *table.Table) { x.Delete([]byte("d")) }, "b=1 f=3"},
		{func(x *table.Table) { x.Delete([]byte("f")) }, "b=1 d=2"},
		{empty, ""},
	} {
		x := made(t, all)
		c := x.Copy()
		change.do(c)
		wantRows(t, "the table behind its copy's change", x, all)
		wantRows(t, "the copy behind its change", c, change.want)
		wantSame(t, "the table and its changed copy", x, c, false)

		c = x.Copy()
		change.do(x)
		wantRows(t, "the copy behind the table's change", c, all)
		wantRows(t, "the table behind its change", x, change.want)
		change.do(c)
		wantSame(t, "both behind the same change", x, c, true)
	}
}

// P7.4: rows that are put at the end of several copies, and taken out there, stay in the one that they were put into.
func TestCopiesWithEndsOfTheirOwn(t *testing.T) {
	x := made(t, "a=1")
	for _, key := range []string{"b", "c", "d", "e", "f"} {
		x.Put([]byte(key), []byte("1"))
	}
	first, second := x.Copy(), x.Copy()
	x.Put([]byte("x"), []byte("x"))
	first.Put([]byte("y"), []byte("y"))
	second.Put([]byte("z"), []byte("z"))
	third := first.Copy()
	first.Delete([]byte("y"))
	first.Put([]byte("w"), []byte("w"))
	const front = "a=1 b=1 c=1 d=1 e=1 f=1 "
	wantRows(t, "the table", x, front+"x=x")
	wantRows(t, "the first copy", first, front+"w=w")
	wantRows(t, "the second copy", second, front+"z=z")
	wantRows(t, "the copy of the first copy", third, front+"y=y")
}

// P7.4: a copy of a copy, and one that is made while another is gone over.
func TestCopyByTheWay(t *testing.T) {
	x := made(t, "a=1 b=2 c=3")
	var copies []*table.Table
	for key := range x.All() {
		copies = append(copies, x.Copy().Copy())
		x.Delete(key)
	}
	for i, want := range []string{"a=1 b=2 c=3", "b=2 c=3", "c=3"} {
		wantRows(t, "a copy by the way", copies[i], want)
	}
	over := copies[0].All()
	copies[0].Copy().Put([]byte("d"), nil)
	wantGone(t, "All behind a copy's Put", over, "a=1 b=2 c=3")
}

// P7.4: the same rows: each key, each value, as many.
func TestSame(t *testing.T) {
	l := []string{"", "a=", "a=1", "a=2", "a=11", "b=1", "aa=1", "a=1 b=2", "a=1 b=", "a=1 c=2", "a=2 b=1", "b=2 c=1", "a=1 b=2 c=3", "a=1 aa=1", "aaa=1"}
	for i, a := range l {
		for j, b := range l {
			wantSame(t, a+" and "+b, made(t, a), made(t, b), i == j)
		}
	}
	x := made(t, "a=1")
	wantSame(t, "a table and itself", x, x, true)
	wantSame(t, "a1 nothing and a, 1", madeOf(t, api.Row{Key: []byte("a1")}), x, false)
}

// P7.4: how the rows came there does not matter.
func TestSameByOtherWays(t *testing.T) {
	l := manyRows(200)
	x := madeOf(t, l...)
	y := made(t, "")
	for _, r := range slices.Backward(l) {
		y.Put(r.Key, []byte("other"))
	}
	wantSame(t, "other values", x, y, false)
	for _, r := range l {
		y.Put(r.Key, r.Value)
	}
	wantSame(t, "the same rows", x, y, true)
	y.Put([]byte("~"), nil)
	wantSame(t, "one row more", x, y, false)
	y.Delete([]byte("~"))
	wantSame(t, "the same rows again", x, y, true)
	y.Delete(l[100].Key)
	wantSame(t, "one row fewer", x, y, false)
	empty(x)
	empty(y)
	wantSame(t, "no rows any more", x, y, true)
	wantSame(t, "no rows any more, and none at all", x, made(t, ""), true)
}
