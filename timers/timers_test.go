package timers_test

import (
	"fmt"
	"math"
	"strings"
	"testing"

	"wicket/api"
	"wicket/timers"
)

// row is a list of timers as a text: each one's name, then its tick.
func row(l []api.Due) string {
	var words []string
	for _, d := range l {
		words = append(words, fmt.Sprintf("%d@%d", d.Name, d.At))
	}
	return strings.Join(words, " ")
}

// passOver are those that All tells till most of them are told; all of them, if most is below 0.
func passOver(all func(func(api.Due) bool), most int) []api.Due {
	var l []api.Due
	for d := range all {
		if len(l) == most {
			break
		}
		l = append(l, d)
	}
	return l
}

// parsed are the timers that a text says, as row writes them.
func parsed(t *testing.T, text string) []api.Due {
	t.Helper()
	var l []api.Due
	for _, word := range strings.Fields(text) {
		var d api.Due
		if _, err := fmt.Sscanf(word, "%d@%d", &d.Name, &d.At); err != nil {
			t.Fatalf("%q: %v", word, err)
		}
		l = append(l, d)
	}
	return l
}

// given are timers that were set in the order of a text.
func given(t *testing.T, text string) *timers.Timers {
	t.Helper()
	x := timers.New()
	for _, d := range parsed(t, text) {
		wantSet(t, x, d.Name, d.At, api.OK)
	}
	return x
}

// filled has as many as may be, with the names from 0 on, of ticks that fall.
func filled(t *testing.T) *timers.Timers {
	t.Helper()
	x := timers.New()
	for name := range int64(api.MaxTimers) {
		wantSet(t, x, name, api.MaxTimers-name, api.OK)
	}
	return x
}

func wantSet(t *testing.T, x *timers.Timers, name, at int64, want api.Errno) {
	t.Helper()
	if got := x.Set(name, at); got != want {
		t.Errorf("Set(%d, %d): %v, want %v", name, at, got, want)
	}
}

func wantClear(t *testing.T, x *timers.Timers, name int64, want api.Errno) {
	t.Helper()
	if got := x.Clear(name); got != want {
		t.Errorf("Clear(%d): %v, want %v", name, got, want)
	}
}

func wantAt(t *testing.T, x *timers.Timers, name, at int64, want api.Errno) {
	t.Helper()
	if got, e := x.At(name); got != at || e != want {
		t.Errorf("At(%d): %d, %v, want %d, %v", name, got, e, at, want)
	}
}

func wantNext(t *testing.T, x *timers.Timers, name, at int64, want api.Errno) {
	t.Helper()
	if got, e := x.Next(); got != (api.Due{Name: name, At: at}) || e != want {
		t.Errorf("Next: %v, %v, want %d@%d, %v", got, e, name, at, want)
	}
}

func wantTake(t *testing.T, x *timers.Timers, now int64, want string) {
	t.Helper()
	if got := row(x.Take(now)); got != want {
		t.Errorf("Take(%d): %.200q, want %.200q", now, got, want)
	}
}

// wantTimers: just these are there, in this order, say All, Len, Next and At.
func wantTimers(t *testing.T, what string, x *timers.Timers, want string) {
	t.Helper()
	l := parsed(t, want)
	if got := row(passOver(x.All(), -1)); got != want || x.Len() != len(l) {
		t.Errorf("%s: %.200q, Len %d; want %.200q", what, got, x.Len(), want)
	}
	if len(l) == 0 {
		wantNext(t, x, 0, 0, api.ErrNone)
	} else {
		wantNext(t, x, l[0].Name, l[0].At, api.OK)
	}
	for _, d := range l {
		wantAt(t, x, d.Name, d.At, api.OK)
	}
}

// The chapter's examples, row by row, on the same timers.
func TestExamples(t *testing.T) {
	x := timers.New()
	wantSet(t, x, 7, 5, api.OK)
	wantSet(t, x, 3, 5, api.OK)
	wantSet(t, x, 9, 1, api.OK)
	wantSet(t, x, 1, -1, api.ErrArg)
	wantNext(t, x, 9, 1, api.OK)

	wantTake(t, x, 0, "")
	wantTake(t, x, 4, "9@1")
	wantSet(t, x, 7, 2, api.OK)
	wantNext(t, x, 7, 2, api.OK)
	wantClear(t, x, 8, api.ErrNone)
	wantAt(t, x, 3, 5, api.OK)

	wantTake(t, x, 9, "7@2 3@5")
	wantNext(t, x, 0, 0, api.ErrNone)
	if x.Len() != 0 {
		t.Errorf("Len: %d", x.Len())
	}
}

// P20.1: new ones have no timer; each are others.
func TestNew(t *testing.T) {
	a, b := timers.New(), timers.New()
	if a == nil || b == nil || a == b {
		t.Fatal("New is none, or the same")
	}
	wantTimers(t, "New", a, "")
	wantSet(t, a, 1, 2, api.OK)
	wantTimers(t, "the one", a, "1@2")
	wantTimers(t, "the other", b, "")
}

// P20.1: a timer that there is not is made, one that there is is moved, ahead, back, or nowhere.
func TestSet(t *testing.T) {
	x := given(t, "5@10 6@20 7@30")
	wantTimers(t, "made", x, "5@10 6@20 7@30")
	for _, s := range []struct {
		name, at int64
		want     string
	}{
		{6, 20, "5@10 6@20 7@30"},
		{6, 40, "5@10 7@30 6@40"},
		{6, 0, "6@0 5@10 7@30"},
		{6, 10, "5@10 6@10 7@30"},
		{7, 10, "5@10 6@10 7@10"},
		{5, 11, "6@10 7@10 5@11"},
		{4, 10, "4@10 6@10 7@10 5@11"},
		{-4, 10, "-4@10 4@10 6@10 7@10 5@11"},
	} {
		wantSet(t, x, s.name, s.at, api.OK)
		wantTimers(t, fmt.Sprintf("Set(%d, %d)", s.name, s.at), x, s.want)
	}
}

// P20.1: a name is any number, a tick 0 or more, up to the greatest numbers that there are.
func TestSetOfEdges(t *testing.T) {
	x := timers.New()
	edges := []int64{math.MinInt64, math.MinInt64 + 1, math.MinInt32, -2, -1, 0, 1, 2, math.MaxInt32, api.MaxTick, api.MaxTick + 1, math.MaxInt64 - 1, math.MaxInt64}
	for i, name := range edges {
		for _, at := range edges {
			if at < 0 {
				wantSet(t, x, name, at, api.ErrArg)
				wantAt(t, x, name, 0, api.ErrNone)
			}
		}
		if x.Len() != i {
			t.Errorf("Len: %d, want %d", x.Len(), i)
		}
		for _, at := range edges {
			if at >= 0 {
				wantSet(t, x, name, at, api.OK)
				wantAt(t, x, name, at, api.OK)
			}
		}
		for _, at := range edges {
			if at < 0 {
				wantSet(t, x, name, at, api.ErrArg)
				wantAt(t, x, name, math.MaxInt64, api.OK)
			}
		}
	}
	for i, d := range passOver(x.All(), -1) {
		if d != (api.Due{Name: edges[i], At: math.MaxInt64}) {
			t.Errorf("%v at the place %d", d, i)
		}
	}
	wantTake(t, x, math.MaxInt64-1, "")
	if l := x.Take(math.MaxInt64); len(l) != len(edges) || x.Len() != 0 {
		t.Errorf("%v are taken, %d stay", l, x.Len())
	}
}

// P20.1: a Set that is refused leaves the timers as they were.
func TestSetRefused(t *testing.T) {
	x := given(t, "5@10 6@20")
	for _, at := range []int64{-1, -2, math.MinInt32, math.MinInt64} {
		for _, name := range []int64{-1, 0, 5, 6, 7} {
			wantSet(t, x, name, at, api.ErrArg)
		}
	}
	wantTimers(t, "refused", x, "5@10 6@20")
	wantAt(t, x, 7, 0, api.ErrNone)
}

// P20.1: MaxTimers there are, one more there is not; those that there are can be moved, and give room once they are gone.
func TestSetUpToTheBound(t *testing.T) {
	if api.MaxTimers != 4096 {
		t.Fatalf("MaxTimers: %d", api.MaxTimers)
	}
	x := filled(t)
	wantSet(t, x, 4096, 0, api.ErrFull)
	wantSet(t, x, -1, 0, api.ErrFull)
	wantSet(t, x, math.MaxInt64, math.MaxInt64, api.ErrFull)
	wantSet(t, x, 4096, -1, api.ErrArg)
	wantSet(t, x, 0, -1, api.ErrArg)
	wantAt(t, x, 4096, 0, api.ErrNone)
	wantSet(t, x, 7, 0, api.OK)
	wantSet(t, x, 4095, 5000, api.OK)
	if x.Len() != api.MaxTimers {
		t.Errorf("Len: %d", x.Len())
	}
	wantSet(t, x.Copy(), 4096, 0, api.ErrFull)

	wantClear(t, x, 9, api.OK)
	wantSet(t, x, 4096, 1, api.OK)
	wantSet(t, x, 9, 1, api.ErrFull)
	wantTake(t, x, 2, "7@0 4096@1 4094@2")
	for _, name := range []int64{9, 4094, 4095, 4097} {
		wantSet(t, x, name, 3, api.OK)
	}
	wantSet(t, x, 4098, 3, api.ErrFull)
	wantTake(t, x, 3, "9@3 4093@3 4094@3 4095@3 4097@3")
	if x.Len() != api.MaxTimers-5 {
		t.Errorf("Len: %d", x.Len())
	}
}

// P20.1: what is cleared is there no more, wherever it stood; the others stay.
func TestClear(t *testing.T) {
	const all = "1@1 2@1 3@2 4@5 5@9 6@9 7@9"
	for _, d := range parsed(t, all) {
		x := given(t, all)
		wantClear(t, x, d.Name, api.OK)
		wantTimers(t, "cleared", x, strings.Join(strings.Fields(strings.Replace(all, row([]api.Due{d}), "", 1)), " "))
		wantAt(t, x, d.Name, 0, api.ErrNone)
		wantClear(t, x, d.Name, api.ErrNone)
		wantSet(t, x, d.Name, d.At, api.OK)
		wantTimers(t, "set again", x, all)
	}
	x := given(t, all)
	for _, name := range []int64{4, 1, 7, 6, 2, 5, 3} {
		wantClear(t, x, name, api.OK)
	}
	wantTimers(t, "all cleared", x, "")
	wantSet(t, x, 4, 4, api.OK)
	wantTimers(t, "one again", x, "4@4")
}

// P20.1: there is none of that name: not of its tick, not one that was taken, cleared or refused.
func TestNoSuchName(t *testing.T) {
	x := given(t, "5@10 6@20 7@30 8@40")
	wantTake(t, x, 15, "5@10")
	wantClear(t, x, 7, api.OK)
	wantSet(t, x, 9, -1, api.ErrArg)
	for _, name := range []int64{math.MinInt64, -8, -6, -1, 0, 1, 2, 5, 7, 9, 10, 20, 30, 40, 1<<32 + 6, math.MaxInt64} {
		wantAt(t, x, name, 0, api.ErrNone)
		wantClear(t, x, name, api.ErrNone)
	}
	wantTimers(t, "the others", x, "6@20 8@40")
	wantAt(t, timers.New(), 0, 0, api.ErrNone)
	wantClear(t, timers.New(), 0, api.ErrNone)
}
