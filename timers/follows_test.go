package timers_test

import (
	"math/rand"
	"slices"
	"testing"

	"wicket/api"
	"wicket/timers"
)

// ordered tells whether a list is in order, with no two alike.
func ordered(l []api.Due) bool {
	return slices.IsSortedFunc(l, inOrder) && len(slices.Compact(slices.Clone(l))) == len(l)
}

func inOrder(a, b api.Due) int {
	if a.At != b.At {
		return int(a.At - b.At)
	}
	return int(a.Name - b.Name)
}

// P20.4: Take of rising ticks tells each timer once, at the first of them that is not below its tick, and all in order.
func TestRisingTakesTellEachOnce(t *testing.T) {
	r := rand.New(rand.NewSource(204))
	for range 200 {
		x, ticks := timers.New(), map[int64]int64{}
		for range 1 + r.Intn(100) {
			name, at := r.Int63n(200)-100, r.Int63n(50)
			wantSet(t, x, name, at, api.OK)
			ticks[name] = at
		}
		last := int64(-1)
		var told []api.Due
		for last < 50 {
			now := last + 1 + r.Int63n(9)
			due := x.Take(now)
			for _, d := range due {
				if d.At <= last || d.At > now || ticks[d.Name] != d.At {
					t.Fatalf("%v is told at %d, behind %d", d, now, last)
				}
				delete(ticks, d.Name)
			}
			told = append(told, due...)
			wantNextAbove(t, x, now)
			last = now
		}
		if len(ticks) != 0 || x.Len() != 0 || !ordered(told) {
			t.Fatalf("%v are not told, %d stay, %v are told", ticks, x.Len(), told)
		}
	}
}

// wantNextAbove: Next is above now, or there is none.
func wantNextAbove(t *testing.T, x *timers.Timers, now int64) {
	t.Helper()
	d, e := x.Next()
	if e == api.OK && d.At <= now || e != api.OK && x.Len() != 0 {
		t.Fatalf("Next behind %d: %v, %v", now, d, e)
	}
}

// P20.4: what is set, moved and cleared between the Takes is told as it is by then; what is not, once.
func TestTakesWithChangesBetween(t *testing.T) {
	r := rand.New(rand.NewSource(205))
	x, want := timers.New(), map[int64]int64{}
	times := 0
	for now := int64(0); now < 3000; now += r.Int63n(4) {
		for range r.Intn(6) {
			name, at := r.Int63n(40), now+1+r.Int63n(30)
			if r.Intn(4) == 0 {
				x.Clear(name)
				delete(want, name)
			} else {
				wantSet(t, x, name, at, api.OK)
				want[name] = at
			}
		}
		due := x.Take(now)
		for _, d := range due {
			if at, is := want[d.Name]; !is || at != d.At || at > now {
				t.Fatalf("%v is told at %d", d, now)
			}
			delete(want, d.Name)
			times++
		}
		for name, at := range want {
			if at <= now {
				t.Fatalf("%d@%d is not told at %d", name, at, now)
			}
		}
		if !ordered(due) || x.Len() != len(want) {
			t.Fatalf("%v are told at %d, %d stay", due, now, x.Len())
		}
		wantNextAbove(t, x, now)
	}
	if times < 500 {
		t.Errorf("%d are told", times)
	}
}

// P20.3, P20.4: All tells what Takes of all ticks, one behind the other, would.
func TestAllIsWhatTakesTell(t *testing.T) {
	r := rand.New(rand.NewSource(206))
	for range 50 {
		x := timers.New()
		for range 60 {
			x.Set(r.Int63n(99), r.Int63n(20))
		}
		all := passOver(x.All(), -1)
		var told []api.Due
		for now := range int64(20) {
			told = append(told, x.Take(now)...)
		}
		if !slices.Equal(all, told) || !ordered(all) {
			t.Errorf("%v, want %v", all, told)
		}
	}
}
