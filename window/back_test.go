package window_test

import (
	"math"
	"strings"
	"testing"

	"wicket/api"
)

// P17.1: numbers that were not given out, near and far, of windows that have given out none, some and all.
func TestNoSuchNumber(t *testing.T) {
	for size := 1; size <= 5; size++ {
		for many := 0; many <= size; many++ {
			w := given(t, size, strings.Repeat("a ", many))
			last := int64(many)
			for _, number := range []int64{
				math.MinInt64, math.MinInt64 + 1, math.MinInt32, -65, -64, -63, -3, -2, -1, 0, last + 1, last + 2, last + int64(size), last + 64, last + 65, last + 128,
				1 << 32, 1<<32 + 1, math.MaxInt64 - 63, math.MaxInt64 - 2, math.MaxInt64 - 1, math.MaxInt64,
			} {
				wantNone(t, w, number)
			}
			for number := int64(1); number <= last; number++ {
				wantGet(t, w, number, "a")
			}
		}
	}
}

// P17.1: a number that is back is so for ever, above the mark and up to it, and wherever another one has its place by now.
func TestNumberThatIsBack(t *testing.T) {
	w := given(t, 3, "a b c", 2)
	wantNone(t, w, 2)
	wantBack(t, w, 3, "c")
	wantNone(t, w, 3)
	wantNone(t, w, 2)
	wantBack(t, w, 1, "a")
	for number := int64(-3); number <= 3; number++ {
		wantNone(t, w, number)
	}
	for i, word := range []string{"d", "e", "f"} {
		wantGive(t, w, word, int64(4+i))
		for number := int64(1); number <= 3; number++ {
			wantNone(t, w, number)
		}
		wantNone(t, w, int64(5+i))
	}
	wantOut(t, "d e f", w, "4=d 5=e 6=f", 3, 6, 0)
	wantBack(t, w, 5, "e")
	for _, number := range []int64{-1, 2, 5, 8} { // they would meet in a ring of three
		wantNone(t, w, number)
	}
}

// P17.1: Get tells, and changes nothing.
func TestGet(t *testing.T) {
	w := given(t, 4, "a b c")
	was := see(w)
	for range 3 {
		for number, want := range map[int64]string{1: "a", 2: "b", 3: "c"} {
			wantGet(t, w, number, want)
		}
	}
	if got := see(w); got != was {
		t.Errorf("behind Get: %v, was %v", got, was)
	}
}

// P17.1: Set: it is its thing from then on, of that number alone.
func TestSet(t *testing.T) {
	w := given(t, 4, "a b c d", 2)
	wantSet(t, w, 3, "x")
	wantOut(t, "Set(3)", w, "1=a 3=x 4=d", 0, 4, 0)
	wantSet(t, w, 3, "y")
	wantSet(t, w, 1, "y")
	wantSet(t, w, 4, "d")
	wantOut(t, "Set of all", w, "1=y 3=y 4=d", 0, 4, 0)
	wantGet(t, w, 3, "y")
	wantBack(t, w, 3, "y")
	wantBack(t, w, 1, "y")
	wantOut(t, "back", w, "4=d", 3, 4, 3)
	wantGive(t, w, "e", 5)
	wantSet(t, w, 5, "z")
	wantSet(t, w, 4, "")
	wantOut(t, "Set of a new one", w, "4= 5=z", 3, 5, 2)
}

// P17.1, P17.2: Back: it is back, the mark goes up as far as all are, and no farther.
func TestBack(t *testing.T) {
	for _, x := range []struct {
		back   []int64
		number int64
		thing  string
		out    string
		mark   int64
	}{
		{nil, 1, "a", "2=b 3=c 4=d 5=e", 1}, {nil, 2, "b", "1=a 3=c 4=d 5=e", 0}, {nil, 5, "e", "1=a 2=b 3=c 4=d", 0},
		{[]int64{1}, 2, "b", "3=c 4=d 5=e", 2}, {[]int64{1}, 3, "c", "2=b 4=d 5=e", 1}, {[]int64{2}, 1, "a", "3=c 4=d 5=e", 2}, {[]int64{3}, 1, "a", "2=b 4=d 5=e", 1},
		{[]int64{2, 3}, 1, "a", "4=d 5=e", 3}, {[]int64{2, 4}, 1, "a", "3=c 5=e", 2}, {[]int64{3, 2, 5}, 1, "a", "4=d", 3}, {[]int64{2, 4, 1}, 3, "c", "5=e", 4},
		{[]int64{5, 4, 3}, 2, "b", "1=a", 0}, {[]int64{5, 4, 3, 2}, 1, "a", "", 5}, {[]int64{1, 2, 3, 4}, 5, "e", "", 5}, {[]int64{5, 1, 4, 2}, 3, "c", "", 5},
	} {
		for _, more := range []int{0, 1, 3, 59} {
			w := given(t, 5+more, "a b c d e", x.back...)
			wantBack(t, w, x.number, x.thing)
			wantOut(t, "Back", w, x.out, x.mark, 5, int(x.mark)+more)
			wantNone(t, w, x.number)
		}
	}
}

// P17.2: the mark goes no farther than what was given out, also where all of a full ring comes back at one stroke.
func TestMarkStaysAtTheLast(t *testing.T) {
	for size := 1; size <= 64; size++ {
		w := made[int](t, size)
		for round := range int64(3) {
			from := round * int64(size)
			for i := range size {
				wantGive(t, w, i, from+int64(i)+1)
			}
			for i := size - 1; i >= 0; i-- {
				if w.Mark() != from {
					t.Errorf("size %d: the mark is %d, with %d out", size, w.Mark(), i+1)
				}
				wantBack(t, w, from+int64(i)+1, i)
			}
			wantOut(t, "all back", w, "", from+int64(size), from+int64(size), size)
		}
	}
}

// P17.1: behind a wrong number the right ones go on as if it had not been asked for.
func TestGoesOnBehindWrongNumbers(t *testing.T) {
	w := given(t, 2, "a b")
	for _, number := range []int64{0, 3, 4, -1} {
		wantNone(t, w, number)
	}
	wantFull(t, w, "c")
	wantBack(t, w, 1, "a")
	wantNone(t, w, 1)
	wantGive(t, w, "c", 3)
	wantFull(t, w, "d")
	wantOut(t, "went on", w, "2=b 3=c", 1, 3, 0)
	if e := w.Set(1, "x"); e != api.ErrNone {
		t.Errorf("Set(1): %v", e)
	}
	wantOut(t, "went on", w, "2=b 3=c", 1, 3, 0)
}
