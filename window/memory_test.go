package window_test

import (
	"runtime"
	"testing"
	"weak"

	"wicket/api"
	"wicket/window"
)

// Things are handed on as values: an array that was handed in or told is the caller's.
func TestThingsAreValues(t *testing.T) {
	w := made[[2]int](t, 3)
	x := [2]int{1, 2}
	w.Give(x)
	w.Give(x)
	x[0] = 9
	w.Set(2, x)
	x[1] = 9
	got, _ := w.Get(1)
	got[0] = 7
	for _, a := range w.All() {
		a[0] = 7
	}
	c := w.Copy()
	c.Set(1, [2]int{5, 5})
	back, _ := c.Back(2)
	back[0] = 7
	wantOut(t, "the window", w, "1=[1 2] 2=[9 2]", 0, 2, 1)
	wantBack(t, w, 1, [2]int{1, 2})
	wantBack(t, w, 2, [2]int{9, 2})
}

// What a thing shares is the caller's own: it is told just as it was handed in, by a copy as well.
func TestWhatThingsShareIsTheCallers(t *testing.T) {
	w := made[[]int](t, 2)
	l := []int{1, 2, 3}
	w.Give(l[:2])
	c := w.Copy()
	l[0] = 9
	for _, w := range []*window.Window[[]int]{w, c} {
		for _, ask := range []func(int64) ([]int, api.Errno){w.Get, w.Back} {
			got, e := ask(1)
			if e != api.OK || len(got) != 2 || cap(got) != 3 || &got[0] != &l[0] {
				t.Errorf("%v, %v", got, e)
			}
		}
	}
}

// big is a thing that can be seen to be let go.
type big [100]int

// giveBig gives out so many, and tells how to see them without keeping them.
func giveBig(w *window.Window[*big], many int) []weak.Pointer[big] {
	var l []weak.Pointer[big]
	for range many {
		b := new(big)
		l = append(l, weak.Make(b))
		w.Give(b)
	}
	return l
}

// What is back, and what has been another number's thing, is not kept.
func TestBackIsLetGo(t *testing.T) {
	w := made[*big](t, 10)
	l := giveBig(w, 10)
	for _, number := range []int64{1, 2, 5, 10} {
		w.Back(number)
	}
	w.Set(7, nil)
	w.Set(8, new(big))
	w.Len()
	all := w.All()
	for range all {
		break
	}
	runtime.GC()
	stays := map[int]bool{3: true, 4: true, 6: true, 9: true}
	for i, p := range l {
		if there := p.Value() != nil; there != stays[i+1] {
			t.Errorf("the thing of %d is kept: %t", i+1, there)
		}
	}
	if w.Len() != 6 {
		t.Errorf("%d are out", w.Len())
	}
	runtime.KeepAlive(w)
	runtime.KeepAlive(all)
}

// A window takes no more memory the longer it goes on, nor for the size of things that were never given out.
func TestLongWindowStaysSmall(t *testing.T) {
	w := made[[1 << 20]byte](t, api.MaxWindow)
	if w.Room() != api.MaxWindow || w.Copy().Room() != api.MaxWindow {
		t.Errorf("Room: %d", w.Room())
	}
	long := made[int](t, 3)
	before := inUse()
	for i := range 200000 {
		long.Give(i)
		long.Back(int64(i + 1))
	}
	if more := inUse() - before; more > 1<<20 {
		t.Errorf("%d bytes more", more)
	}
	wantOut(t, "gone on for long", long, "", 200000, 200000, 3)
}

// inUse is how many bytes are in use.
func inUse() int64 {
	runtime.GC()
	var m runtime.MemStats
	runtime.ReadMemStats(&m)
	return int64(m.HeapAlloc)
}
