package net_test

import (
	"runtime"
	"slices"
	"testing"
	"weak"

	"wicket/api"
	"wicket/net"
)

// What is handed in is not changed, spare room behind it included, and not kept.
func TestHandedInIsNeitherChangedNorKept(t *testing.T) {
	n := net.New[string]()
	l := []string{"a", "b", "c", "spare", "spare"}
	wantErrno(t, "Send", n.Send(l[:3]...), api.OK)
	n.Send("x")
	n.Twin(0)
	n.Take(1)
	n.Keep(func(s string) bool { return s != "c" })
	n.Copy().Send("y")
	if !slices.Equal(l, []string{"a", "b", "c", "spare", "spare"}) {
		t.Errorf("the list is %q now", l)
	}
	for i := range l {
		l[i] = "!"
	}
	wantWay(t, "a list that is another one since", n, "a x a", 5)
}

// So it is where the list is the first that is sent, and where it is refused.
func TestFirstAndRefusedAreNeitherChangedNorKept(t *testing.T) {
	n := net.New[int]()
	l := append(places(api.MaxWay), -1)
	n.Send(l[:api.MaxWay]...)
	wantErrno(t, "Send", n.Send(l...), api.ErrFull)
	for range 10 {
		n.Take(0)
	}
	n.Keep(func(x int) bool { return x%2 == 0 })
	if !slices.Equal(l, append(places(api.MaxWay), -1)) {
		t.Error("the list is another one now")
	}
	clear(l)
	if got, e := n.At(1); got != 12 || e != api.OK {
		t.Errorf("At(1): %d, %v", got, e)
	}
}

// Things are handed on as values: an array that was told is the caller's, and so is one that was sent.
func TestThingsAreValues(t *testing.T) {
	n := net.New[[2]int]()
	sent := [2]int{1, 2}
	n.Send(sent)
	n.Twin(0)
	sent[0] = 9
	at, _ := n.At(0)
	at[0] = 9
	for _, a := range n.All() {
		a[0] = 9
	}
	n.Keep(func(a [2]int) bool { a[0] = 9; return true })
	c := n.Copy()
	taken, _ := c.Take(0)
	taken[0] = 9
	want := [][2]int{{1, 2}, {1, 2}}
	if !slices.Equal(row(n), want) || !slices.Equal(row(c), want[1:]) {
		t.Errorf("on the way are %v, %v", row(n), row(c))
	}
}

// What a thing shares is the caller's own: it is told just as it was sent, a twin as well.
func TestWhatThingsShareIsTheCallers(t *testing.T) {
	n := net.New[[]int]()
	l := []int{1, 2, 3}
	n.Send(l[:2])
	n.Twin(0)
	c := n.Copy()
	l[0] = 9
	for _, n := range []*net.Net[[]int]{n, c} {
		for range 2 {
			got, e := n.Take(0)
			if e != api.OK || len(got) != 2 || cap(got) != 3 || &got[0] != &l[0] {
				t.Errorf("Take: %v, %v", got, e)
			}
		}
	}
}

// big is a thing that can be seen to be let go.
type big [100]int

// sendBig sends so many, and tells how to see them without keeping them.
func sendBig(n *net.Net[*big], many int) []weak.Pointer[big] {
	var l []weak.Pointer[big]
	for range many {
		b := new(big)
		l = append(l, weak.Make(b))
		n.Send(b)
	}
	return l
}

// What is on the way no more is not kept.
func TestGoneIsLetGo(t *testing.T) {
	n := net.New[*big]()
	l := sendBig(n, 10)
	stays := l[7].Value()
	n.Take(9)
	n.Lose(8)
	for _, place := range []int{0, 3} {
		n.Take(place)
		n.Lose(place)
	}
	n.Keep(func(b *big) bool { return b == stays })
	stays = nil
	runtime.GC()
	for i, p := range l {
		if there := p.Value() != nil; there != (i == 7) {
			t.Errorf("the thing %d is kept: %t", i, there)
		}
	}
	if n.Len() != 1 {
		t.Errorf("%d are on the way", n.Len())
	}
	runtime.KeepAlive(n)
}
