package window_test

import (
	"math"
	"testing"

	"wicket/api"
	"wicket/window"
)

// P17.1, P17.2: of a window that is not there, and of a zero one: ErrNil where an error is answered, whatever is handed in,
// else zero answers.
func TestNoWindow(t *testing.T) {
	var none *window.Window[string]
	refused, _ := window.New[string](65)
	for name, w := range map[string]*window.Window[string]{
		"nil": none, "zero": {}, "new": new(window.Window[string]), "refused": refused, "a copy of nil": none.Copy(), "a copy of a zero one": new(window.Window[string]).Copy(),
	} {
		t.Run(name, func(t *testing.T) {
			for range 2 {
				nothingIsGiven(t, w)
				nothingIsSeen(t, w)
			}
		})
	}
}

// nothingIsGiven asks with numbers near and far: ErrNil is ahead of all other errors.
func nothingIsGiven(t *testing.T, w *window.Window[string]) {
	t.Helper()
	for _, x := range []string{"", "a"} {
		if number, e := w.Give(x); number != 0 || e != api.ErrNil {
			t.Errorf("Give: %d, %v", number, e)
		}
	}
	for _, number := range []int64{math.MinInt64, -64, -1, 0, 1, 2, 64, 65, math.MaxInt64} {
		if x, e := w.Get(number); x != "" || e != api.ErrNil {
			t.Errorf("Get(%d): %q, %v", number, x, e)
		}
		if x, e := w.Back(number); x != "" || e != api.ErrNil {
			t.Errorf("Back(%d): %q, %v", number, x, e)
		}
		wantErrno(t, "Set", w.Set(number, "a"), api.ErrNil)
	}
}

func nothingIsSeen(t *testing.T, w *window.Window[string]) {
	t.Helper()
	if got := see(w); got != (seen{}) {
		t.Errorf("it is there: %v", got)
	}
	if w.Copy() != nil {
		t.Error("its Copy is there")
	}
	all := w.All()
	if all == nil {
		t.Fatal("its All is nil")
	}
	wantAll(t, "All", all, "")
	wantAll(t, "All once more", all, "")
}
