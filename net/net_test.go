package net_test

import (
	"math"
	"slices"
	"strings"
	"testing"

	"wicket/api"
	"wicket/net"
)

// row is what is on the way, seen by All.
func row[T any](n *net.Net[T]) []T {
	var l []T
	for _, t := range n.All() {
		l = append(l, t)
	}
	return l
}

// onWay is a net with the words of a text on the way.
func onWay(t *testing.T, text string) *net.Net[string] {
	t.Helper()
	n := net.New[string]()
	wantErrno(t, "Send", n.Send(strings.Fields(text)...), api.OK)
	return n
}

func wantErrno(t *testing.T, what string, got, want api.Errno) {
	t.Helper()
	if got != want {
		t.Errorf("%s: %v, want %v", what, got, want)
	}
}

// wantWay: just these words are on the way, say All, Len and At, and so many were sent.
func wantWay(t *testing.T, what string, n *net.Net[string], text string, sent int64) {
	t.Helper()
	want := strings.Fields(text)
	if got := row(n); !slices.Equal(got, want) || n.Len() != len(want) || n.Sent() != sent {
		t.Errorf("%s: %.60q, Len %d, Sent %d; want %.60q, Sent %d", what, got, n.Len(), n.Sent(), want, sent)
	}
	for place, word := range want {
		if got, e := n.At(place); got != word || e != api.OK {
			t.Errorf("%s: At(%d): %q, %v, want %q", what, place, got, e, word)
		}
	}
}

func wantTake(t *testing.T, n *net.Net[string], place int, want string) {
	t.Helper()
	if got, e := n.Take(place); got != want || e != api.OK {
		t.Errorf("Take(%d): %q, %v, want %q", place, got, e, want)
	}
}

// filled is a net with as many on the way as may be, each of them its place.
func filled(t *testing.T) *net.Net[int] {
	t.Helper()
	n := net.New[int]()
	wantErrno(t, "Send of MaxWay", n.Send(places(api.MaxWay)...), api.OK)
	return n
}

// places are the numbers from 0 on, so many of them.
func places(many int) []int {
	l := make([]int, many)
	for i := range l {
		l[i] = i
	}
	return l
}

func wantNumbers(t *testing.T, what string, n *net.Net[int], want []int, sent int64) {
	t.Helper()
	if got := row(n); !slices.Equal(got, want) || n.Len() != len(want) || n.Sent() != sent {
		t.Errorf("%s: %d on the way, Len %d, Sent %d; want %d, Sent %d", what, len(got), n.Len(), n.Sent(), len(want), sent)
	}
}

// The chapter's examples, row by row, on one net.
func TestExamples(t *testing.T) {
	n := net.New[int]()
	wantErrno(t, "Send(5, 6, 7)", n.Send(5, 6, 7), api.OK)
	if got, e := n.Take(1); got != 6 || e != api.OK {
		t.Errorf("Take(1): %d, %v", got, e)
	}
	wantErrno(t, "Twin(0)", n.Twin(0), api.OK)
	if got, e := n.At(2); n.Len() != 3 || got != 5 || e != api.OK {
		t.Errorf("Len: %d; At(2): %d, %v", n.Len(), got, e)
	}
	if got, e := n.At(3); got != 0 || e != api.ErrNone {
		t.Errorf("At(3): %d, %v", got, e)
	}

	wantErrno(t, "Lose(0)", n.Lose(0), api.OK)
	wantErrno(t, "Lose(9)", n.Lose(9), api.ErrNone)
	if got, e := n.Take(0); got != 7 || e != api.OK || n.Sent() != 4 {
		t.Errorf("Take(0): %d, %v; Sent: %d", got, e, n.Sent())
	}

	if gone := n.Keep(func(x int) bool { return x%2 == 0 }); gone != 1 || n.Len() != 0 {
		t.Errorf("Keep: %d; Len: %d", gone, n.Len())
	}
}

// P16.1: a new net has nothing on the way; each is another one.
func TestNew(t *testing.T) {
	a, b := net.New[string](), net.New[string]()
	if a == nil || b == nil || a == b {
		t.Fatal("New is none, or the same one")
	}
	wantWay(t, "New", a, "", 0)
	a.Send("a")
	wantWay(t, "the one", a, "a", 1)
	wantWay(t, "the other one", b, "", 0)
}

// P16.1: they stand behind the others, in order.
func TestSend(t *testing.T) {
	n := net.New[string]()
	wantErrno(t, "Send", n.Send("c", "a", "b"), api.OK)
	wantWay(t, "three", n, "c a b", 3)
	wantErrno(t, "Send", n.Send("a"), api.OK)
	wantWay(t, "the same once more", n, "c a b a", 4)
	wantTake(t, n, 0, "c")
	wantErrno(t, "Send", n.Send("c", "c"), api.OK)
	wantWay(t, "behind a Take", n, "a b a c c", 6)
}

// P16.1: none are sent, whichever list has none.
func TestSendOfNone(t *testing.T) {
	for _, text := range []string{"", "a b"} {
		n := onWay(t, text)
		sent := n.Sent()
		wantErrno(t, "Send()", n.Send(), api.OK)
		wantErrno(t, "Send of no list", n.Send([]string(nil)...), api.OK)
		wantErrno(t, "Send of an empty list", n.Send([]string{}...), api.OK)
		wantWay(t, "none", n, text, sent)
	}
	n := filled(t)
	wantErrno(t, "Send() to a full net", n.Send(), api.OK)
	wantErrno(t, "Send of an empty list to a full net", n.Send([]int{}...), api.OK)
	wantNumbers(t, "full", n, places(api.MaxWay), api.MaxWay)
}

// P16.1: MaxWay are on the way, one more is not, and a Send that is refused sends none of its things.
func TestSendUpToTheBound(t *testing.T) {
	if api.MaxWay != 65536 {
		t.Errorf("MaxWay is %d", api.MaxWay)
	}
	n := net.New[int]()
	wantErrno(t, "Send of MaxWay and 1", n.Send(places(api.MaxWay+1)...), api.ErrFull)
	wantNumbers(t, "nothing", n, nil, 0)
	wantErrno(t, "Send of MaxWay less 2", n.Send(places(api.MaxWay-2)...), api.OK)
	wantErrno(t, "Send of 3", n.Send(1, 2, 3), api.ErrFull)
	wantNumbers(t, "two fewer", n, places(api.MaxWay-2), api.MaxWay-2)
	wantErrno(t, "Send of 2", n.Send(api.MaxWay-2, api.MaxWay-1), api.OK)
	wantErrno(t, "Send of 1", n.Send(7), api.ErrFull)
	wantErrno(t, "Send of many", n.Send(places(api.MaxWay)...), api.ErrFull)
	wantNumbers(t, "full", n, places(api.MaxWay), api.MaxWay)
}

// P16.1: one by one up to the bound, too.
func TestSendOneByOne(t *testing.T) {
	n := net.New[int]()
	for i := range api.MaxWay {
		if e := n.Send(i); e != api.OK {
			t.Fatalf("Send of %d: %v", i, e)
		}
	}
	wantErrno(t, "Send of one more", n.Send(1), api.ErrFull)
	wantNumbers(t, "full", n, places(api.MaxWay), api.MaxWay)
}

// P16.1, P16.2: what goes makes room again, however it goes; what has gone does not count against the bound.
func TestRoomAgain(t *testing.T) {
	n := filled(t)
	for name, out := range map[string]func() bool{
		"Take": func() bool { _, e := n.Take(9); return e == api.OK },
		"Lose": func() bool { return n.Lose(api.MaxWay-1) == api.OK },
		"Keep": func() bool {
			asked := 0
			return n.Keep(func(int) bool { asked++; return asked != 5 }) == 1
		},
	} {
		if !out() || n.Len() != api.MaxWay-1 {
			t.Errorf("%s leaves %d", name, n.Len())
		}
		wantErrno(t, "Send of two behind "+name, n.Send(1, 2), api.ErrFull)
		wantErrno(t, "Send of one behind "+name, n.Send(1), api.OK)
		wantErrno(t, "Send of one more behind "+name, n.Send(2), api.ErrFull)
	}
	if n.Len() != api.MaxWay || n.Sent() != api.MaxWay+3 {
		t.Errorf("Len %d, Sent %d", n.Len(), n.Sent())
	}
	for range 3 {
		n.Keep(func(int) bool { return false })
		wantErrno(t, "Send of MaxWay", n.Send(places(api.MaxWay)...), api.OK)
	}
	wantNumbers(t, "full again", n, places(api.MaxWay), 4*api.MaxWay+3)
}

// P16.1: so many that no number says how many there would be.
func TestSendOfHugeLists(t *testing.T) {
	n := net.New[struct{}]()
	for _, many := range []int{math.MaxInt, math.MaxInt - 1, math.MaxInt32, api.MaxWay + 1} {
		wantErrno(t, "Send to an empty net", n.Send(make([]struct{}, many)...), api.ErrFull)
	}
	wantErrno(t, "Send of two", n.Send(struct{}{}, struct{}{}), api.OK)
	for _, many := range []int{math.MaxInt, math.MaxInt - 1, math.MaxInt - 2, api.MaxWay - 1} {
		wantErrno(t, "Send behind two", n.Send(make([]struct{}, many)...), api.ErrFull)
	}
	if n.Len() != 2 || n.Sent() != 2 || len(row(n)) != 2 {
		t.Errorf("Len %d, Sent %d", n.Len(), n.Sent())
	}
	wantErrno(t, "Send up to the bound", n.Send(make([]struct{}, api.MaxWay-2)...), api.OK)
	wantErrno(t, "Send of the greatest list", n.Send(make([]struct{}, math.MaxInt)...), api.ErrFull)
	wantErrno(t, "Twin", n.Twin(0), api.ErrFull)
	if n.Len() != api.MaxWay || n.Sent() != api.MaxWay {
		t.Errorf("Len %d, Sent %d", n.Len(), n.Sent())
	}
}
