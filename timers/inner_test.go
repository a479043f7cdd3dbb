package timers

import (
	"math/rand"
	"testing"
)

// wantFound: each timer knows where it stands, the names find just those that the heap has, and nothing is behind them.
func wantFound(t *testing.T, x *Timers) {
	t.Helper()
	if len(x.names) != len(x.heap) {
		t.Fatalf("%d names, %d in the heap", len(x.names), len(x.heap))
	}
	for place, one := range x.heap {
		if one.place != place || x.names[one.Name] != one {
			t.Fatalf("%v stands at the place %d", *one, place)
		}
		if place > 0 && x.heap.Less(place, (place-1)/2) {
			t.Fatalf("%v stands above %v", *x.heap[(place-1)/2], *one)
		}
	}
	for _, one := range x.heap[len(x.heap):cap(x.heap)] {
		if one != nil {
			t.Fatalf("%v is kept", *one)
		}
	}
}

// The heap and the names agree behind each step.
func TestHeapAndNamesAgree(t *testing.T) {
	r := rand.New(rand.NewSource(207))
	x := New()
	for range 5000 {
		switch r.Intn(8) {
		case 0:
			x.Take(r.Int63n(20))
		case 1, 2:
			x.Clear(r.Int63n(99))
		case 3:
			x = x.Copy()
		case 4:
			for range x.All() {
			}
		default:
			x.Set(r.Int63n(99), r.Int63n(90))
		}
		wantFound(t, x)
	}
}
