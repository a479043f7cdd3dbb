package window_test

import (
	"testing"

	"wicket/window"
)

// P17.2: a copy stands where the window does, at each step of a story, and gives out, refuses and takes back as it would.
func TestCopyStandsThere(t *testing.T) {
	w := made[string](t, 3)
	for _, step := range []func(){
		func() {}, func() { w.Give("a") }, func() { w.Give("b") }, func() { w.Back(2) }, func() { w.Give("c") }, func() { w.Set(3, "x") },
		func() { w.Back(1) }, func() { w.Give("d") }, func() { w.Back(3) }, func() { w.Give("e") }, func() { w.Back(4) }, func() { w.Back(5) },
	} {
		step()
		c := w.Copy()
		if c == nil || c == w {
			t.Fatal("Copy is none, or the same one")
		}
		was := see(w)
		if got := see(c); got != was {
			t.Errorf("Copy: %v, want %v", got, was)
		}
		if got := see(c.Copy()); got != was {
			t.Errorf("Copy of a Copy: %v, want %v", got, was)
		}
		for number := w.Mark(); number <= w.Last()+1; number++ {
			x, e := w.Get(number)
			if y, f := c.Get(number); x != y || e != f {
				t.Errorf("Get(%d) of the copy: %q, %v, want %q, %v", number, y, f, x, e)
			}
		}
	}
}

// P17.2: a full copy is full; its size is the window's.
func TestCopyOfAFullWindow(t *testing.T) {
	for size := 1; size <= 64; size++ {
		w := made[int](t, size)
		for i := range size {
			wantGive(t, w.Copy(), i, int64(i+1))
			wantGive(t, w, i, int64(i+1))
		}
		c := w.Copy()
		wantFull(t, c, 7)
		wantBack(t, c, 1, 0)
		wantGive(t, c, 7, int64(size+1))
		wantFull(t, c, 8)
		wantFull(t, w, 7)
	}
}

// P17.2: both go on apart, whatever is done to whichever of them first.
func TestCopyGoesOnApart(t *testing.T) {
	for name, one := range changes() {
		w := midway(t)
		c := w.Copy()
		one.do(c)
		wantAll(t, name+" of the copy", c.All(), one.text)
		wantOut(t, name+" of the copy, the window", w, midwayText, 1, 5, 1)
		want := see(c)

		c = w.Copy()
		one.do(w)
		if got := see(w); got != want {
			t.Errorf("%s of the window: %v, want %v", name, got, want)
		}
		wantOut(t, name+" of the window, the copy", c, midwayText, 1, 5, 1)
		one.do(c)
		if got := see(c); got != want {
			t.Errorf("%s of both: %v, want %v", name, got, want)
		}
	}
}

// P17.2: numbers that several copies give out next are each one's own.
func TestCopiesGiveApart(t *testing.T) {
	w := given(t, 3, "a b")
	first, second := w.Copy(), w.Copy()
	wantGive(t, w, "x", 3)
	wantGive(t, first, "y", 3)
	wantGive(t, second, "z", 3)
	third := first.Copy()
	wantBack(t, first, 1, "a")
	wantSet(t, third, 1, "c")
	wantOut(t, "the window", w, "1=a 2=b 3=x", 0, 3, 0)
	wantOut(t, "the first copy", first, "2=b 3=y", 1, 3, 1)
	wantOut(t, "the second copy", second, "1=a 2=b 3=z", 0, 3, 0)
	wantOut(t, "the copy of the first copy", third, "1=c 2=b 3=y", 0, 3, 0)
}

// P17.2: copies that are made while the window is gone over have what it is at the time.
func TestCopyByTheWay(t *testing.T) {
	w := given(t, 3, "a b c")
	var copies []*window.Window[string]
	for number := range w.All() {
		copies = append(copies, w.Copy())
		w.Back(number)
	}
	for i, want := range []string{"1=a 2=b 3=c", "2=b 3=c", "3=c"} {
		wantOut(t, "a copy by the way", copies[i], want, int64(i), 3, i)
	}
	c := copies[0]
	all := c.All()
	for _, word := range all {
		c.Copy().Back(1)
		w.Give(word)
	}
	wantAll(t, "a copy that is gone over", all, "1=a 2=b 3=c")
}
