package timers_test

import (
	"math"
	"testing"

	"wicket/api"
	"wicket/timers"
)

// P20.1 to P20.3: of timers that are not there, and of zero ones: ErrNil where an error is answered, whatever is handed in,
// else zero answers.
func TestNoTimers(t *testing.T) {
	var none *timers.Timers
	for name, x := range map[string]*timers.Timers{
		"nil": none, "zero": {}, "new": new(timers.Timers), "a copy of nil": none.Copy(), "a copy of zero ones": new(timers.Timers).Copy(),
	} {
		t.Run(name, func(t *testing.T) {
			for range 2 {
				nothingIsDone(t, x)
				nothingIsSeen(t, x)
			}
		})
	}
}

// nothingIsDone asks with numbers near and far: ErrNil is ahead of all other errors.
func nothingIsDone(t *testing.T, x *timers.Timers) {
	t.Helper()
	numbers := []int64{math.MinInt64, -1, 0, 1, math.MaxInt64}
	for _, name := range numbers {
		for _, at := range numbers {
			wantSet(t, x, name, at, api.ErrNil)
		}
		wantClear(t, x, name, api.ErrNil)
		wantAt(t, x, name, 0, api.ErrNil)
		if l := x.Take(name); len(l) != 0 {
			t.Errorf("Take(%d): %v", name, l)
		}
	}
}

func nothingIsSeen(t *testing.T, x *timers.Timers) {
	t.Helper()
	wantNext(t, x, 0, 0, api.ErrNil)
	if x.Len() != 0 {
		t.Errorf("Len: %d", x.Len())
	}
	if x.Copy() != nil {
		t.Error("its Copy is there")
	}
	all := x.All()
	if all == nil {
		t.Fatal("its All is nil")
	}
	wantAll(t, "All", all, "")
	wantAll(t, "All once more", all, "")
}
