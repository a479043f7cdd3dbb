package table_test

import (
	"testing"

	"wicket/api"
	"wicket/table"
)

// P7.1 to P7.4: of a table that is not there, of one that New refused, and of a zero one: ErrNil where an error is
// answered, else zero answers.
func TestNoTable(t *testing.T) {
	refused, _ := table.New(api.Row{})
	for name, x := range map[string]*table.Table{"nil": nil, "refused": refused, "zero": {}, "new": new(table.Table)} {
		t.Run(name, func(t *testing.T) {
			for range 2 {
				noTableIsChanged(t, x)
				noTableIsLookedAt(t, x)
			}
		})
	}
}

// noTableIsChanged asks with keys that may be, and with such that may not: ErrNil is ahead of ErrArg.
func noTableIsChanged(t *testing.T, x *table.Table) {
	t.Helper()
	for _, key := range [][]byte{[]byte("a"), nil, make([]byte, 65)} {
		for _, value := range [][]byte{nil, []byte("1"), make([]byte, 257)} {
			if was, e := x.Put(key, value); was || e != api.ErrNil {
				t.Errorf("Put: %v, %v", was, e)
			}
		}
		if v, e := x.Get(key); v != nil || e != api.ErrNil {
			t.Errorf("Get: %q, %v", v, e)
		}
		if was, e := x.Delete(key); was || e != api.ErrNil {
			t.Errorf("Delete: %v, %v", was, e)
		}
	}
}

func noTableIsLookedAt(t *testing.T, x *table.Table) {
	t.Helper()
	if x.Len() != 0 || x.Size() != 0 || x.Rank([]byte("z")) != 0 || x.Rank(nil) != 0 {
		t.Errorf("Len, Size, Rank: %d, %d, %d, %d", x.Len(), x.Size(), x.Rank([]byte("z")), x.Rank(nil))
	}
	for _, place := range []int{-1, 0, 1} {
		if r, e := x.At(place); r.Key != nil || r.Value != nil || e != api.ErrNil {
			t.Errorf("At(%d): %v, %v", place, r, e)
		}
	}
	for _, most := range []int{-1, 0, 1, 9} {
		for _, to := range []string{"", "a", "z"} {
			if l := x.Scan([]byte("b"), []byte(to), most); len(l) != 0 {
				t.Errorf("Scan: %v", l)
			}
		}
	}
	for range 2 {
		wantGone(t, "All", x.All(), "")
		wantGone(t, "Down(nil)", x.Down(nil), "")
		wantGone(t, "Down(z)", x.Down([]byte("z")), "")
	}
	if x.Copy() != nil {
		t.Error("Copy of no table is there")
	}
}

// P7.4: two tables that are not there have the same rows, a zero one is as nil; one that is there has others, without rows too.
func TestSameOfNoTable(t *testing.T) {
	var none *table.Table
	zero := &table.Table{}
	wantSame(t, "nil and nil", none, nil, true)
	wantSame(t, "nil and zero", none, zero, true)
	wantSame(t, "zero and zero", zero, new(table.Table), true)
	wantSame(t, "zero and itself", zero, zero, true)
	emptied := made(t, "a=1")
	empty(emptied)
	for _, x := range []*table.Table{made(t, ""), made(t, "a=1"), emptied, emptied.Copy()} {
		wantSame(t, "nil and another", none, x, false)
		wantSame(t, "zero and another", zero, x, false)
	}
}

// P7.1: a table without rows is there, and may be put into; so may its copy, and one whose rows were all taken out.
func TestATableOfNoRowsIsThere(t *testing.T) {
	emptied := made(t, "a=1")
	empty(emptied)
	for _, x := range []*table.Table{made(t, ""), made(t, "").Copy(), emptied, emptied.Copy()} {
		wantNone(t, x, "a")
		wantDelete(t, x, "a", false)
		wantNotAt(t, x, 0)
		wantPut(t, x, "a", "1", false)
		wantRows(t, "a table of no rows behind Put", x, "a=1")
	}
}
