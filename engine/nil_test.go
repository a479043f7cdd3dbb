package engine_test

import (
	"testing"

	"wicket/api"
	"wicket/engine"
)

// P8.2 to P8.4: of a database that is not there, of one that New refused, and of a zero one: ErrNil where an error is
// answered, ahead of all other errors; else zero answers.
func TestNoDatabase(t *testing.T) {
	refused, _ := engine.New(api.Quota{})
	full, _ := engine.New(api.Quota{Rows: 1, Bytes: 1}, rows("t/a=1")...)
	for name, e := range map[string]*engine.Engine{"nil": nil, "refused": refused, "full": full, "zero": {}, "new": new(engine.Engine)} {
		t.Run(name, func(t *testing.T) {
			for range 2 {
				noDatabaseDoes(t, e)
				noDatabaseIsLookedAt(t, e)
			}
		})
	}
}

func noDatabaseDoes(t *testing.T, e *engine.Engine) {
	t.Helper()
	for _, c := range []api.Call{parsed(t, "get t a"), parsed(t, "put t a 1"), parsed(t, "delete t a"), parsed(t, "swap t a +1 1"), parsed(t, "swap t a - 1"), parsed(t, "scan t % % 9"), {}, call(api.Op{}), sized(4097)} {
		if r, errno := e.Do(c); errno != api.ErrNil || told(r) != "" || r.Outs != nil {
			t.Errorf("Do(%s): %s, %v", written(c), told(r), errno)
		}
		if r, errno := e.Look(c); errno != api.ErrNil || told(r) != "" || r.Outs != nil {
			t.Errorf("Look(%s): %s, %v", written(c), told(r), errno)
		}
		if o, r, errno := e.Try(c); errno != api.ErrNil || told(r) != "" || r.Outs != nil || o != nil {
			t.Errorf("Try(%s): %v, %s, %v", written(c), o != nil, told(r), errno)
		}
	}
}

func noDatabaseIsLookedAt(t *testing.T, e *engine.Engine) {
	t.Helper()
	if e.Quota() != (api.Quota{}) || e.Len() != 0 || e.Size() != 0 || len(e.Tables()) != 0 {
		t.Errorf("Quota, Len, Size, Tables: %v, %d, %d, %q", e.Quota(), e.Len(), e.Size(), e.Tables())
	}
	all := e.All()
	if all == nil {
		t.Fatal("All is none")
	}
	for range 2 {
		wantNamed(t, "All", listed(all), nil)
	}
	if e.Copy() != nil {
		t.Error("Copy of no database is there")
	}
}

// P8.4: two databases that are not there are the same, a zero one is as nil; one that is there is not, without rows too.
func TestSameOfNoDatabase(t *testing.T) {
	var none *engine.Engine
	zero := &engine.Engine{}
	wantSame(t, "nil and nil", none, nil, true)
	wantSame(t, "nil and zero", none, zero, true)
	wantSame(t, "zero and zero", zero, new(engine.Engine), true)
	wantSame(t, "zero and itself", zero, zero, true)
	emptied := made(t, wide, "t/a=1")
	emptied.Do(parsed(t, "delete t a"))
	for _, e := range []*engine.Engine{made(t, wide, ""), made(t, api.Quota{Rows: 1, Bytes: 1}, ""), made(t, wide, "t/a=1"), emptied, emptied.Copy()} {
		wantSame(t, "nil and another", none, e, false)
		wantSame(t, "zero and another", zero, e, false)
	}
}

// P8.1: a database without rows is there; so is its copy, and one whose rows were all taken out.
func TestADatabaseOfNoRowsIsThere(t *testing.T) {
	emptied := made(t, wide, "t/a=1")
	wantDo(t, emptied, "delete t a", "+")
	for _, e := range []*engine.Engine{made(t, wide, ""), made(t, wide, "").Copy(), emptied, emptied.Copy()} {
		wantDo(t, e, "get t a; delete t a; scan t % % 9", "-; -; -")
		wantDo(t, e, "swap t a +% 1", "other at 0")
		wantDo(t, e, "put t a 1", "-")
		wantRows(t, "a database of no rows behind a put", e, "t/a=1")
	}
}
