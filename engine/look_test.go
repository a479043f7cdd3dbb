package engine_test

import (
	"iter"
	"slices"
	"strings"
	"testing"

	"wicket/api"
	"wicket/engine"
)

func wantTables(t *testing.T, e *engine.Engine, want string) {
	t.Helper()
	if got := e.Tables(); !slices.Equal(got, strings.Fields(want)) {
		t.Errorf("Tables: %q, not %q", got, want)
	}
}

// P8.3: Tables are the names of those that have rows, rising: one whose last row is taken out is none any more.
func TestTables(t *testing.T) {
	e := made(t, wide, "")
	wantTables(t, e, "")
	for _, x := range [][2]string{
		{"get t a", ""}, {"scan t % % 9", ""}, {"delete t a", ""}, {"swap t a +1 2", ""}, {"put t a 1; swap t a +2 1", ""}, {"put t a 1", "t"}, {"put t b 1", "t"}, {"put u a %", "t u"},
		{"put t0 a 1; put 0 a 1; put a a 1; put tt a 1; put zzzzzzzzzzzzzzzz a 1", "0 a t t0 tt u zzzzzzzzzzzzzzzz"}, {"delete t a", "0 a t t0 tt u zzzzzzzzzzzzzzzz"},
		{"delete t b", "0 a t0 tt u zzzzzzzzzzzzzzzz"}, {"delete t b; get t b; scan t % % 9", "0 a t0 tt u zzzzzzzzzzzzzzzz"}, {"delete u a; put u a 2", "0 a t0 tt u zzzzzzzzzzzzzzzz"},
		{"delete u a; swap u a +2 2", "0 a t0 tt u zzzzzzzzzzzzzzzz"}, {"delete 0 a; delete a a; delete zzzzzzzzzzzzzzzz a", "t0 tt u"}, {"put t a 1; delete t a", "t0 tt u"},
		{"delete t0 a; delete tt a; delete u a", ""}, {"put b a 1", "b"},
	} {
		e.Do(parsed(t, x[0]))
		wantTables(t, e, x[1])
	}
	wantTables(t, made(t, wide, "a/k=1 b/k=1 b/l=1 c/k="), "a b c")
	if n := len(madeOf(t, wide, many(4096, 1000)...).Tables()); n != 1000 {
		t.Errorf("%d tables", n)
	}
}

// P8.3: Len and Size, of rows put, put again and taken out.
func TestLenAndSize(t *testing.T) {
	e := made(t, wide, "")
	for _, x := range []struct {
		call       string
		rows, size int
	}{
		{"put t a 1", 1, 2}, {"put t a 22", 1, 3}, {"put t a %", 1, 1}, {"put u abc 12345", 2, 9}, {"put u abc 1; put t b %", 3, 6}, {"delete t z", 3, 6}, {"swap u abc +1 22", 3, 7},
		{"put t c 9; swap t c +1 1", 3, 7}, {"get t a; scan t % % 9", 3, 7}, {"delete t a", 2, 6}, {"delete u abc", 1, 1}, {"delete t b", 0, 0},
	} {
		e.Do(parsed(t, x.call))
		if e.Len() != x.rows || e.Size() != x.size {
			t.Errorf("behind %s: Len, Size: %d, %d, not %d, %d", x.call, e.Len(), e.Size(), x.rows, x.size)
		}
	}
}

// P8.3: Quota stays, whatever is done.
func TestQuotaStays(t *testing.T) {
	q := api.Quota{Rows: 2, Bytes: 7}
	e := made(t, q, "t/a=1")
	for _, text := range []string{"put t b 1", "put t c 1", "put t a 1234567", "delete t a", "get t a", "delete t b"} {
		e.Do(parsed(t, text))
		o, _, _ := e.Try(parsed(t, text))
		if e.Quota() != q || o.Quota() != q || e.Copy().Quota() != q {
			t.Errorf("Quota behind %s: %v, %v, %v", text, e.Quota(), o.Quota(), e.Copy().Quota())
		}
	}
}

// P8.3: All tells the rows by their tables' names, then by their keys, however they came there.
func TestAllIsInOrder(t *testing.T) {
	e := made(t, wide, "")
	for _, text := range []string{"put u b 1", "put t c 2", "put t0 a 3", "put t a 4", "put u a 5", "put t aa 6", "put t %FF 7", "put 9 z 8", "put t %00 9", "put t b %"} {
		wantDo(t, e, text, "-")
	}
	wantRows(t, "All", e, "9/z=8 t/\x00=9 t/a=4 t/aa=6 t/b= t/c=2 t/\xff=7 t0/a=3 u/a=5 u/b=1")
}

// P8.3: All may be left at any time, tells nothing more then, and is gone through as often as one likes.
func TestAllLeftEarly(t *testing.T) {
	want := rows("s/b=1 t/a=2 t/b=3 u/a=4 u/b=5")
	e := madeOf(t, wide, want...)
	all := e.All()
	for n := 1; n <= len(want); n++ {
		var got []api.Named
		all(func(r api.Named) bool {
			got = append(got, r)
			return len(got) != n
		})
		wantNamed(t, "All left early", got, want[:n])
		wantNamed(t, "All again", listed(all), want)
	}
}

// P8.3: the rows are told as they are when going over begins, whatever is done by the way.
func TestGoneOverAsItBegan(t *testing.T) {
	const all = "s/b=1 t/b=2 t/d=3 u/b=4"
	for _, text := range []string{
		"delete s b", "delete u b", "delete t b; delete t d", "delete s b; delete t b; delete t d; delete u b", "put t b 9; put t d 9; put u b 9; put s b 9", "put t a 9; put t c 9; put t e 9",
		"put a a 9", "put t0 a 9", "put z a 9", "delete t d; put t d 8", "delete u b; put u c 9", "delete u b; put u b 9", "swap t d +3 9", "swap u a - 9",
	} {
		for at := range 4 {
			e := made(t, wide, all)
			want := e.Copy()
			want.Do(parsed(t, text))
			var got []api.Named
			for r := range e.All() {
				if len(got) == at {
					e.Do(parsed(t, text))
				}
				got = append(got, r)
			}
			if namedText(got) != all {
				t.Errorf("All, with %s by the way, tells %q", text, namedText(got))
			}
			wantSame(t, "behind "+text, e, want, true)
		}
	}
}

// P8.3: each time going over begins, it tells the rows as they are then, not as they were when All was called.
func TestEachTimeAnew(t *testing.T) {
	e := made(t, wide, "")
	all := e.All()
	for _, x := range [][2]string{{"put t b 1", "t/b=1"}, {"put t a 2; put s a 3", "s/a=3 t/a=2 t/b=1"}, {"put t a 4", "s/a=3 t/a=4 t/b=1"}, {"delete t a; delete t b", "s/a=3"}, {"delete s a", ""}, {"put u a 1", "u/a=1"}} {
		e.Do(parsed(t, x[0]))
		wantNamed(t, "All", listed(all), rows(x[1]))
	}
}

// P8.3: going over within going over, and two by turns: each tells the rows as they are when it began.
func TestOneWithinTheOther(t *testing.T) {
	e := made(t, wide, "t/a=1 t/b=2 u/a=3")
	all := e.All()
	var got []string
	for r := range all {
		got = append(got, string(r.Key)+": "+namedText(listed(all)))
		e.Do(call(api.Op{Kind: api.Delete, Table: r.Table, Key: r.Key}))
	}
	if want := []string{"a: t/a=1 t/b=2 u/a=3", "b: t/b=2 u/a=3", "a: u/a=3"}; !slices.Equal(got, want) {
		t.Errorf("tells %q", got)
	}

	e = made(t, wide, "t/a=1 t/b=2 u/a=3")
	first, stopFirst := iter.Pull(e.All())
	defer stopFirst()
	r, _ := first()
	e.Do(parsed(t, "delete t a; put u a 4"))
	second, stopSecond := iter.Pull(e.All())
	defer stopSecond()
	got = []string{namedText([]api.Named{r})}
	for range 2 {
		a, _ := first()
		b, _ := second()
		e.Do(parsed(t, "delete t b; delete u a"))
		got = append(got, namedText([]api.Named{a, b}))
	}
	if want := []string{"t/a=1", "t/b=2 t/b=2", "u/a=3 u/a=4"}; !slices.Equal(got, want) {
		t.Errorf("by turns: %q", got)
	}
}
