package timers_test

import (
	"math"
	"strings"
	"testing"

	"wicket/api"
	"wicket/timers"
)

// P20.2: the first one in order, by ticks, then by names, in whatever order they were set; it stays.
func TestNext(t *testing.T) {
	x := timers.New()
	wantNext(t, x, 0, 0, api.ErrNone)
	for _, s := range []struct{ name, at, first, tick int64 }{
		{5, 9, 5, 9}, {6, 9, 5, 9}, {4, 9, 4, 9}, {-4, 9, -4, 9}, {9, 8, 9, 8}, {10, 0, 10, 0}, {0, 0, 0, 0}, {-1, 0, -1, 0}, {-1, 1, 0, 0}, {0, 3, 10, 0},
	} {
		wantSet(t, x, s.name, s.at, api.OK)
		wantNext(t, x, s.first, s.tick, api.OK)
		wantNext(t, x, s.first, s.tick, api.OK)
	}
	wantClear(t, x, 10, api.OK)
	wantNext(t, x, -1, 1, api.OK)
	wantTimers(t, "all stay", x, "-1@1 0@3 9@8 -4@9 4@9 5@9 6@9")
}

// P20.2: a timer of the name 0 at the tick 0 is one like any other.
func TestNoughtsAreATimer(t *testing.T) {
	x := given(t, "0@0")
	wantNext(t, x, 0, 0, api.OK)
	wantAt(t, x, 0, 0, api.OK)
	wantTimers(t, "noughts", x, "0@0")
	wantTake(t, x, -1, "")
	wantTake(t, x, 0, "0@0")
	wantTimers(t, "taken", x, "")
}

// P20.2: at each tick just those whose tick is at most it, in order; they are there no more, the others stay.
func TestTake(t *testing.T) {
	const all = "2@0 7@3 9@3 1@4 8@4 3@6 4@6 5@7"
	l := strings.Fields(all)
	for _, s := range []struct {
		now  int64
		many int
	}{
		{math.MinInt64, 0}, {-1, 0}, {0, 1}, {1, 1}, {2, 1}, {3, 3}, {4, 5}, {5, 5}, {6, 7}, {7, 8}, {8, 8}, {1 << 40, 8}, {math.MaxInt64, 8},
	} {
		x := given(t, "8@4 5@7 1@4 9@3 4@6 2@0 3@6 7@3")
		due, rest := strings.Join(l[:s.many], " "), strings.Join(l[s.many:], " ")
		wantTake(t, x, s.now, due)
		wantTimers(t, "those that are not due", x, rest)
		wantTake(t, x, s.now, "")
		for _, d := range parsed(t, due) {
			wantAt(t, x, d.Name, 0, api.ErrNone)
			wantClear(t, x, d.Name, api.ErrNone)
		}
		wantTake(t, x, math.MaxInt64, rest)
		wantTimers(t, "none", x, "")
	}
	wantTake(t, timers.New(), math.MaxInt64, "")
}

// P20.2: ticks need not rise: what is set at an elder tick is due at it.
func TestTakeOfAnElderTick(t *testing.T) {
	x := given(t, "1@10 2@20")
	wantTake(t, x, 15, "1@10")
	wantSet(t, x, 3, 5, api.OK)
	wantSet(t, x, 1, 4, api.OK)
	wantTake(t, x, 3, "")
	wantTake(t, x, 4, "1@4")
	wantTake(t, x, 100, "3@5 2@20")
}

// P20.2: a timer that was moved is due at the tick that it has, not at one that it had.
func TestTakeOfMoved(t *testing.T) {
	x := given(t, "1@10 2@20 3@30 4@40")
	wantSet(t, x, 1, 35, api.OK)
	wantSet(t, x, 4, 15, api.OK)
	wantSet(t, x, 3, 50, api.OK)
	wantSet(t, x, 3, 30, api.OK)
	wantTake(t, x, 14, "")
	wantTake(t, x, 20, "4@15 2@20")
	wantTake(t, x, 34, "3@30")
	wantTake(t, x, 40, "1@35")
	wantTimers(t, "none", x, "")
}

// P20.2: as many as may be are taken at once, in order.
func TestTakeOfAllThatMayBe(t *testing.T) {
	x := filled(t)
	wantTake(t, x, 0, "")
	l := x.Take(api.MaxTimers)
	if len(l) != api.MaxTimers || x.Len() != 0 {
		t.Fatalf("%d are taken, %d stay", len(l), x.Len())
	}
	for i, d := range l {
		if d != (api.Due{Name: int64(api.MaxTimers - 1 - i), At: int64(i + 1)}) {
			t.Errorf("%v at the place %d", d, i)
		}
	}
	wantTimers(t, "none", x, "")
	for name := range int64(api.MaxTimers) {
		wantSet(t, x, -name, 3, api.OK)
	}
	wantSet(t, x, 1, 3, api.ErrFull)
	for i, d := range x.Take(3) {
		if d != (api.Due{Name: int64(i + 1 - api.MaxTimers), At: 3}) {
			t.Errorf("%v at the place %d", d, i)
		}
	}
}
