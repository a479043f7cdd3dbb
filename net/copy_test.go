package net_test

import (
	"testing"

	"wicket/api"
	"wicket/net"
)

// P16.3: a copy stands where the net does: the same on the way, as many sent.
func TestCopyStandsThere(t *testing.T) {
	n := net.New[string]()
	for _, step := range []func(){
		func() {}, func() { n.Send("a", "b", "c") }, func() { n.Twin(1) }, func() { n.Take(0) }, func() { n.Lose(1) }, func() { n.Keep(func(string) bool { return false }) }, func() { n.Send("d") },
	} {
		step()
		c := n.Copy()
		if c == nil || c == n {
			t.Fatal("Copy is none, or the same one")
		}
		text := ""
		for _, word := range n.All() {
			text += word + " "
		}
		wantWay(t, "Copy", c, text, n.Sent())
		wantWay(t, "Copy of a Copy", c.Copy(), text, n.Sent())
	}
	full := filled(t).Copy()
	wantErrno(t, "Send to a full copy", full.Send(1), api.ErrFull)
	wantErrno(t, "Twin of a full copy", full.Twin(1), api.ErrFull)
	wantNumbers(t, "Copy of a full net", full, places(api.MaxWay), api.MaxWay)
}

// P16.3: both go on apart, whatever is done to whichever of them first.
func TestCopyGoesOnApart(t *testing.T) {
	for name, change := range changes() {
		n := onWay(t, "a b c")
		c := n.Copy()
		change(c)
		wantWay(t, name+" of the copy, the net", n, "a b c", 3)
		want, sent := "", c.Sent()
		for _, word := range c.All() {
			want += word + " "
		}

		c = n.Copy()
		change(n)
		wantWay(t, name+" of the net", n, want, sent)
		wantWay(t, name+" of the net, the copy", c, "a b c", 3)
		change(c)
		wantWay(t, name+" of both", c, want, sent)
	}
}

// P16.3: things that are sent behind several copies stay in the one that they were sent by; so it is with what Keep loses.
func TestCopiesWithEndsOfTheirOwn(t *testing.T) {
	n := net.New[string]()
	for _, word := range []string{"a", "b", "c", "d", "e"} { // one by one, so that there is room behind them
		n.Send(word)
	}
	first, second := n.Copy(), n.Copy()
	n.Send("x")
	first.Send("y")
	second.Send("z")
	third := first.Copy()
	first.Keep(func(s string) bool { return s != "y" && s != "c" })
	third.Twin(5)
	wantWay(t, "the net", n, "a b c d e x", 6)
	wantWay(t, "the first copy", first, "a b d e", 6)
	wantWay(t, "the second copy", second, "a b c d e z", 6)
	wantWay(t, "the copy of the first copy", third, "a b c d e y y", 7)
}

// P16.3: a copy that is made while the net is gone over, or asked what to keep.
func TestCopyByTheWay(t *testing.T) {
	n := onWay(t, "a b c")
	var copies []*net.Net[string]
	for range n.All() {
		copies = append(copies, n.Copy())
		n.Take(0)
	}
	for i, want := range []string{"a b c", "b c", "c"} {
		wantWay(t, "a copy by the way", copies[i], want, 3)
	}
	c := copies[0]
	var within *net.Net[string]
	c.Keep(func(s string) bool {
		within = c.Copy()
		return s == "b"
	})
	wantWay(t, "a copy within Keep", within, "a b c", 3)
	wantWay(t, "the net behind Keep", c, "b", 3)
}
