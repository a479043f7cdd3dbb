package timers_test

import (
	"math"
	"runtime"
	"testing"

	"wicket/api"
	"wicket/timers"
)

// What Take tells is new memory, spare room included: it may be changed, and nothing changes by that.
func TestTakeIsNewMemory(t *testing.T) {
	x := given(t, "1@1 2@2 3@3 4@4 5@5 6@6")
	first := x.Take(3)
	first = first[:cap(first)]
	for i := range first {
		first[i] = api.Due{Name: -1, At: -1}
	}
	wantTimers(t, "spoilt", x, "4@4 5@5 6@6")
	for name := range int64(3) {
		wantSet(t, x, name+1, name+1, api.OK)
	}
	second := x.Take(3)
	if row(second) != "1@1 2@2 3@3" {
		t.Errorf("Take: %q", row(second))
	}
	for _, d := range first {
		if d != (api.Due{Name: -1, At: -1}) {
			t.Errorf("an elder answer has %v", d)
		}
	}
	wantTake(t, x, 9, "4@4 5@5 6@6")
	if row(second) != "1@1 2@2 3@3" {
		t.Errorf("an elder answer is %q", row(second))
	}
	if l := x.Take(9); cap(l) != 0 {
		t.Errorf("Take of none has room for %d", cap(l))
	}
}

// Timers take no more memory the longer they go on.
func TestLongTimersStaySmall(t *testing.T) {
	x := timers.New()
	before := inUse()
	for i := range int64(100000) {
		x.Set(i, i%7)
		x.Set(i, i%5)
		switch {
		case i%3 == 0:
			x.Clear(i)
		case i%10 == 0:
			x.Take(9)
		}
	}
	x.Take(math.MaxInt64)
	if more := inUse() - before; more > 1<<20 {
		t.Errorf("%d bytes more", more)
	}
	wantTimers(t, "gone on for long", x, "")
	wantSet(t, x, 5, 5, api.OK)
	wantTimers(t, "gone on for long", x, "5@5")
}

// inUse is how many bytes are in use.
func inUse() int64 {
	runtime.GC()
	var m runtime.MemStats
	runtime.ReadMemStats(&m)
	return int64(m.HeapAlloc)
}
