package window_test

import (
	"fmt"
	"math"
	"strconv"
	"strings"
	"testing"

	"wicket/api"
	"wicket/window"
)

// out tells what All tells as "3=c 5=e", by numbers and things.
func out[T any](w *window.Window[T]) string {
	var words []string
	for number, x := range w.All() {
		words = append(words, strconv.FormatInt(number, 10)+"="+fmt.Sprint(x))
	}
	return strings.Join(words, " ")
}

func made[T any](t *testing.T, size int) *window.Window[T] {
	t.Helper()
	w, e := window.New[T](size)
	if w == nil || e != api.OK {
		t.Fatalf("New(%d): a window %t, %v", size, w != nil, e)
	}
	return w
}

// given is a window that has given out the words of a text, from 1 on, and taken these numbers back.
func given(t *testing.T, size int, text string, back ...int64) *window.Window[string] {
	t.Helper()
	w := made[string](t, size)
	for i, word := range strings.Fields(text) {
		wantGive(t, w, word, int64(i+1))
	}
	for _, number := range back {
		if _, e := w.Back(number); e != api.OK {
			t.Fatalf("Back(%d): %v", number, e)
		}
	}
	return w
}

func wantErrno(t *testing.T, what string, got, want api.Errno) {
	t.Helper()
	if got != want {
		t.Errorf("%s: %v, want %v", what, got, want)
	}
}

func wantGive[T any](t *testing.T, w *window.Window[T], x T, want int64) {
	t.Helper()
	if got, e := w.Give(x); got != want || e != api.OK {
		t.Errorf("Give(%v): %d, %v, want %d", x, got, e, want)
	}
}

// wantFull: nothing is given out, however often it is asked, and nothing changes.
func wantFull[T any](t *testing.T, w *window.Window[T], x T) {
	t.Helper()
	was := see(w)
	for range 2 {
		if got, e := w.Give(x); got != 0 || e != api.ErrFull {
			t.Errorf("Give(%v) of %v: %d, %v, want none, %v", x, was, got, e, api.ErrFull)
		}
	}
	if got := see(w); got != was {
		t.Errorf("behind a Give that is refused: %v, was %v", got, was)
	}
}

func wantGet[T comparable](t *testing.T, w *window.Window[T], number int64, want T) {
	t.Helper()
	if got, e := w.Get(number); got != want || e != api.OK {
		t.Errorf("Get(%d): %v, %v, want %v", number, got, e, want)
	}
}

func wantSet[T any](t *testing.T, w *window.Window[T], number int64, x T) {
	t.Helper()
	if e := w.Set(number, x); e != api.OK {
		t.Errorf("Set(%d, %v): %v", number, x, e)
	}
}

func wantBack[T comparable](t *testing.T, w *window.Window[T], number int64, want T) {
	t.Helper()
	if got, e := w.Back(number); got != want || e != api.OK {
		t.Errorf("Back(%d): %v, %v, want %v", number, got, e, want)
	}
}

// wantNone: the number was not given out, or is back, says all that takes one, and nothing changes.
func wantNone(t *testing.T, w *window.Window[string], number int64) {
	t.Helper()
	was := see(w)
	for range 2 {
		if x, e := w.Get(number); x != "" || e != api.ErrNone {
			t.Errorf("Get(%d) of %v: %q, %v", number, was, x, e)
		}
		if e := w.Set(number, "!"); e != api.ErrNone {
			t.Errorf("Set(%d) of %v: %v", number, was, e)
		}
		if x, e := w.Back(number); x != "" || e != api.ErrNone {
			t.Errorf("Back(%d) of %v: %q, %v", number, was, x, e)
		}
	}
	if got := see(w); got != was {
		t.Errorf("behind %d, which is none: %v, was %v", number, got, was)
	}
}

// seen is all that can be seen of a window, its things as a text, so that it can be held against another one.
type seen struct {
	out        string
	mark, last int64
	len, room  int
}

func (s seen) String() string {
	return fmt.Sprintf("%q out, mark %d, last %d, len %d, room %d", s.out, s.mark, s.last, s.len, s.room)
}

func see[T any](w *window.Window[T]) seen {
	return seen{out(w), w.Mark(), w.Last(), w.Len(), w.Room()}
}

// wantOut: just these are out, and so many numbers above the last one may be given out.
func wantOut[T any](t *testing.T, what string, w *window.Window[T], text string, mark, last int64, room int) {
	t.Helper()
	want := seen{text, mark, last, strings.Count(text, "="), room}
	if got := see(w); got != want {
		t.Errorf("%s: %v, want %v", what, got, want)
	}
}

// The chapter's examples, row by row, on one window.
func TestExamples(t *testing.T) {
	if w, e := window.New[int](0); w != nil || e != api.ErrArg {
		t.Errorf("New(0): a window %t, %v", w != nil, e)
	}
	w := made[string](t, 2)
	wantGive(t, w, "a", 1)
	wantGive(t, w, "b", 2)
	wantFull(t, w, "c")

	wantBack(t, w, 2, "b")
	wantOut(t, "Back(2)", w, "1=a", 0, 2, 0)
	wantNone(t, w, 2)
	wantFull(t, w, "c")
	wantBack(t, w, 1, "a")
	wantOut(t, "Back(1)", w, "", 2, 2, 2)

	wantGive(t, w, "c", 3)
	wantGet(t, w, 3, "c")
	wantNone(t, w, 1)
	wantSet(t, w, 3, "d")
	wantOut(t, "Set(3, d)", w, "3=d", 2, 3, 1)
}

// P17.1: sizes at their edges and beyond them; a new window has given out nothing.
func TestNew(t *testing.T) {
	if api.MaxWindow != 64 {
		t.Errorf("MaxWindow is %d", api.MaxWindow)
	}
	for _, size := range []int{math.MinInt, math.MinInt + 1, math.MinInt32, -65, -64, -2, -1, 0, 65, 66, 128, 1 << 20, 1<<32 + 1, 1<<32 + 64, math.MaxInt - 1, math.MaxInt} {
		if w, e := window.New[string](size); w != nil || e != api.ErrArg {
			t.Errorf("New(%d): a window %t, %v", size, w != nil, e)
		}
	}
	for size := 1; size <= 64; size++ {
		w := made[string](t, size)
		wantOut(t, "New", w, "", 0, 0, size)
		for _, number := range []int64{-1, 0, 1, 2, int64(size), int64(size) + 1} {
			wantNone(t, w, number)
		}
	}
}

// P17.1: each New is another window.
func TestNewIsAnotherOne(t *testing.T) {
	a, b := made[string](t, 2), made[string](t, 2)
	if a == b {
		t.Fatal("New is the same one")
	}
	wantGive(t, a, "a", 1)
	wantOut(t, "the one", a, "1=a", 0, 1, 1)
	wantOut(t, "the other one", b, "", 0, 0, 2)
	wantGive(t, b, "b", 1)
	wantOut(t, "the one", a, "1=a", 0, 1, 1)
}

// P17.1: from 1 on, one behind the other, as many as the size, and not one more.
func TestGive(t *testing.T) {
	for size := 1; size <= 64; size++ {
		w := made[int64](t, size)
		text := ""
		for number := int64(1); number <= int64(size); number++ {
			wantGive(t, w, number*10, number)
			text += fmt.Sprintf("%d=%d ", number, number*10)
			wantOut(t, "Give", w, strings.TrimSpace(text), 0, number, size-int(number))
		}
		wantFull(t, w, 7)
	}
}

// P17.1: a window is full by its mark, not by how many are out.
func TestGiveHangsOnTheMark(t *testing.T) {
	w := given(t, 4, "a b c d", 2, 3, 4)
	wantOut(t, "one is out", w, "1=a", 0, 4, 0)
	wantFull(t, w, "e")
	wantBack(t, w, 1, "a")
	wantOut(t, "none is out", w, "", 4, 4, 4)
	for i, word := range []string{"e", "f", "g", "h"} {
		wantGive(t, w, word, int64(5+i))
	}
	wantFull(t, w, "i")
	wantBack(t, w, 6, "f")
	wantFull(t, w, "i")
	wantBack(t, w, 5, "e")
	wantOut(t, "the mark is two further", w, "7=g 8=h", 6, 8, 2)
	wantGive(t, w, "i", 9)
	wantGive(t, w, "j", 10)
	wantFull(t, w, "k")
	wantOut(t, "full", w, "7=g 8=h 9=i 10=j", 6, 10, 0)
}

// P17.1: a window of one thing, one behind the other.
func TestGiveOneByOne(t *testing.T) {
	w := made[int64](t, 1)
	for number := int64(1); number <= 1000; number++ {
		wantGive(t, w, -number, number)
		wantFull(t, w, 0)
		wantBack(t, w, number, -number)
		wantOut(t, "Back", w, "", number, number, 1)
	}
}

// P17.1, P17.2: things that are alike have numbers of their own; things that are nothing are out like all others.
func TestThingsAlike(t *testing.T) {
	w := given(t, 3, "a a a")
	wantSet(t, w, 2, "b")
	wantBack(t, w, 1, "a")
	wantGet(t, w, 2, "b")
	wantOut(t, "alike", w, "2=b 3=a", 1, 3, 1)

	w = made[string](t, 2)
	wantGive(t, w, "", 1)
	wantGet(t, w, 1, "")
	wantOut(t, "no text", w, "1=", 0, 1, 1)
	wantSet(t, w, 1, "")
	wantBack(t, w, 1, "")
	wantNone(t, w, 1)
	wantOut(t, "no text, back", w, "", 1, 1, 2)
}

// P17.1: things of any types, also such that cannot be held against each other, and such that are nothing.
func TestThingsOfAnyType(t *testing.T) {
	lists := made[[]int](t, 3)
	lists.Give(nil)
	lists.Give([]int{1, 2})
	wantOut(t, "lists", lists, "1=[] 2=[1 2]", 0, 2, 1)
	if l, e := lists.Get(1); l != nil || e != api.OK {
		t.Errorf("no list: %v, %v", l, e)
	}
	if l, e := lists.Get(3); l != nil || e != api.ErrNone {
		t.Errorf("none: %v, %v", l, e)
	}
	functions := made[func() int](t, 2)
	functions.Give(nil)
	functions.Give(func() int { return 7 })
	if f, e := functions.Back(2); e != api.OK || f() != 7 || functions.Mark() != 0 {
		t.Errorf("a function: %v", e)
	}
	if f, e := functions.Back(1); f != nil || e != api.OK || functions.Mark() != 2 {
		t.Errorf("no function: %v", e)
	}
	things := made[any](t, 4)
	things.Give(nil)
	things.Give([]int{1})
	things.Give(api.ErrNone)
	wantSet[any](t, things, 3, nil)
	wantOut(t, "things", things, "1=<nil> 2=[1] 3=<nil>", 0, 3, 1)
	nothings := made[struct{}](t, 2)
	nothings.Give(struct{}{})
	nothings.Give(struct{}{})
	wantFull(t, nothings, struct{}{})
	wantBack(t, nothings, 1, struct{}{})
	wantOut(t, "nothings", nothings, "2={}", 1, 2, 1)
	calls := made[api.Sent](t, 2)
	calls.Give(api.Sent{Id: 3, At: 9})
	wantBack(t, calls, 1, api.Sent{Id: 3, At: 9})
	wantGive(t, calls, api.Sent{}, 2)
	wantGet(t, calls, 2, api.Sent{})
}
