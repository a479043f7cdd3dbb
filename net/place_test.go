package net_test

import (
	"math"
	"slices"
	"testing"

	"wicket/api"
	"wicket/net"
)

// wantNoPlace: there is no such place, and asking for it changes nothing.
func wantNoPlace(t *testing.T, n *net.Net[string], place int, text string, sent int64) {
	t.Helper()
	if got, e := n.At(place); got != "" || e != api.ErrNone {
		t.Errorf("At(%d) of %q: %q, %v", place, text, got, e)
	}
	if got, e := n.Take(place); got != "" || e != api.ErrNone {
		t.Errorf("Take(%d) of %q: %q, %v", place, text, got, e)
	}
	wantErrno(t, "Twin", n.Twin(place), api.ErrNone)
	wantErrno(t, "Lose", n.Lose(place), api.ErrNone)
	wantWay(t, "no such place", n, text, sent)
}

// P16.2: places ahead of the first one and behind the last one, near and far.
func TestNoSuchPlace(t *testing.T) {
	far := []int{math.MinInt, math.MinInt + 1, math.MinInt32, -api.MaxWay, -2, -1, 3, 4, api.MaxWay - 1, api.MaxWay, math.MaxInt32, math.MaxInt - 1, math.MaxInt}
	for _, text := range []string{"", "a", "a b", "a b c"} {
		n := onWay(t, text)
		many := n.Len()
		for _, place := range append(far, many) {
			wantNoPlace(t, n, place, text, int64(many))
		}
	}
	n := onWay(t, "a b c d e f")
	for n.Len() > 2 {
		n.Take(0)
	}
	for _, place := range []int{2, 3, 4, 5, 6, -1} { // what had been there once
		wantNoPlace(t, n, place, "e f", 6)
	}
}

// P16.2: a place that is not there is told ahead of a full net.
func TestNoSuchPlaceOfAFullNet(t *testing.T) {
	n := filled(t)
	for _, place := range []int{math.MinInt, -1, api.MaxWay, api.MaxWay + 1, math.MaxInt} {
		wantErrno(t, "Twin", n.Twin(place), api.ErrNone)
		wantErrno(t, "Lose", n.Lose(place), api.ErrNone)
		if got, e := n.Take(place); got != 0 || e != api.ErrNone {
			t.Errorf("Take(%d): %d, %v", place, got, e)
		}
		if got, e := n.At(place); got != 0 || e != api.ErrNone {
			t.Errorf("At(%d): %d, %v", place, got, e)
		}
	}
	wantNumbers(t, "full", n, places(api.MaxWay), api.MaxWay)
}

// P16.2: At is the one at that place, and leaves it there.
func TestAt(t *testing.T) {
	n := onWay(t, "a b c")
	for range 3 {
		for place, want := range []string{"a", "b", "c"} {
			if got, e := n.At(place); got != want || e != api.OK {
				t.Errorf("At(%d): %q, %v", place, got, e)
			}
		}
	}
	wantWay(t, "looked at", n, "a b c", 3)
}

// P16.2: Take and Lose: it is on the way no more, those behind it stand one place ahead.
func TestTakeAndLose(t *testing.T) {
	for place, left := range []string{"b c d", "a c d", "a b d", "a b c"} {
		n := onWay(t, "a b c d")
		wantTake(t, n, place, string("abcd"[place]))
		wantWay(t, "Take", n, left, 4)
		n = onWay(t, "a b c d")
		wantErrno(t, "Lose", n.Lose(place), api.OK)
		wantWay(t, "Lose", n, left, 4)
	}
}

// P16.2: all of them, from the front, from the end, from the midst; then none is there.
func TestTakeAll(t *testing.T) {
	for want, at := range map[string]func(many int) int{
		"abcdef": func(int) int { return 0 }, "fedcba": func(many int) int { return many - 1 }, "dcebfa": func(many int) int { return many / 2 },
	} {
		n := onWay(t, "a b c d e f")
		got := ""
		for n.Len() > 0 {
			word, e := n.Take(at(n.Len()))
			if e != api.OK {
				t.Fatalf("Take: %v", e)
			}
			got += word
		}
		if got != want {
			t.Errorf("%q are taken, want %q", got, want)
		}
		wantNoPlace(t, n, 0, "", 6)
		wantErrno(t, "Send", n.Send("x"), api.OK)
		wantWay(t, "one more", n, "x", 7)
	}
}

// P16.2: of several that are alike the one at that place goes.
func TestTakeOfThoseAlike(t *testing.T) {
	n := onWay(t, "a b a a c a")
	wantTake(t, n, 2, "a")
	wantWay(t, "the second one is taken", n, "a b a c a", 6)
	wantErrno(t, "Lose", n.Lose(4), api.OK)
	wantWay(t, "the last one is lost", n, "a b a c", 6)
	wantTake(t, n, 0, "a")
	wantWay(t, "the first one is taken", n, "b a c", 6)
}

// P16.2: Twin: it is on the way once more, behind all others; the one that it is of stays.
func TestTwin(t *testing.T) {
	for place, want := range []string{"a b c a", "a b c b", "a b c c"} {
		n := onWay(t, "a b c")
		wantErrno(t, "Twin", n.Twin(place), api.OK)
		wantWay(t, "Twin", n, want, 4)
	}
	n := onWay(t, "a b")
	for range 3 {
		wantErrno(t, "Twin", n.Twin(0), api.OK)
	}
	wantErrno(t, "Twin of a twin", n.Twin(4), api.OK)
	wantErrno(t, "Twin", n.Twin(1), api.OK)
	wantWay(t, "twins", n, "a b a a a a b", 7)
	wantErrno(t, "Lose", n.Lose(0), api.OK)
	wantTake(t, n, 0, "b")
	wantWay(t, "what they are of has gone", n, "a a a a b", 7)
}

// P16.2: Twin up to the bound, not beyond it; behind a Take there is room again.
func TestTwinUpToTheBound(t *testing.T) {
	n := net.New[int]()
	wantErrno(t, "Send", n.Send(places(api.MaxWay-1)...), api.OK)
	wantErrno(t, "Twin", n.Twin(3), api.OK)
	full := append(places(api.MaxWay-1), 3)
	for _, place := range []int{0, 3, api.MaxWay - 1} {
		wantErrno(t, "Twin of a full net", n.Twin(place), api.ErrFull)
	}
	wantNumbers(t, "full", n, full, api.MaxWay)
	wantErrno(t, "Lose", n.Lose(0), api.OK)
	wantErrno(t, "Twin", n.Twin(0), api.OK)
	wantErrno(t, "Twin of a full net", n.Twin(0), api.ErrFull)
	wantNumbers(t, "full again", n, append(slices.Clone(full[1:]), 1), api.MaxWay+1)
}

// P16.2, P16.3: things of any types, also such that cannot be held against each other, and such that are nothing.
func TestThingsOfAnyType(t *testing.T) {
	lists := net.New[[]int]()
	lists.Send(nil, []int{1, 2}, []int{})
	if l, e := lists.Take(1); !slices.Equal(l, []int{1, 2}) || e != api.OK {
		t.Errorf("a list: %v, %v", l, e)
	}
	if l, e := lists.At(0); l != nil || e != api.OK {
		t.Errorf("no list: %v, %v", l, e)
	}
	if l, e := lists.At(2); l != nil || e != api.ErrNone {
		t.Errorf("none: %v, %v", l, e)
	}
	functions := net.New[func() int]()
	functions.Send(nil, func() int { return 7 })
	functions.Twin(1)
	functions.Twin(0)
	if gone := functions.Keep(func(f func() int) bool { return f != nil }); gone != 2 || functions.Len() != 2 {
		t.Errorf("functions: %d, %d", gone, functions.Len())
	}
	if f, e := functions.Take(1); e != api.OK || f() != 7 {
		t.Errorf("a function: %v", e)
	}
	things := net.New[any]()
	things.Send(nil, 5, "a", []int{1}, error(nil), map[string]int{}, api.ErrNone)
	things.Twin(3)
	if x, e := things.Take(7); e != api.OK || x.([]int)[0] != 1 || things.Len() != 7 {
		t.Errorf("a thing: %v, %v", x, e)
	}
	messages := net.New[api.Message]()
	messages.Send(api.Message{Client: 3}, api.Message{})
	if m, e := messages.Take(0); m.Client != 3 || e != api.OK {
		t.Errorf("a message: %v, %v", m, e)
	}
	pointers := net.New[*int]()
	five := 5
	pointers.Send(nil, &five, &five)
	if p, e := pointers.Take(1); p != &five || e != api.OK {
		t.Errorf("a pointer: %v, %v", p, e)
	}
	arrays := net.New[[3]int]()
	arrays.Send([3]int{1, 2, 3}, [3]int{})
	arrays.Twin(0)
	if a, e := arrays.Take(2); a != [3]int{1, 2, 3} || e != api.OK {
		t.Errorf("an array: %v, %v", a, e)
	}
}
