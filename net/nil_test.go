package net_test

import (
	"math"
	"testing"

	"wicket/api"
	"wicket/net"
)

// P16.1 to P16.3: of a net that is not there, and of a zero one: ErrNil where an error is answered, whatever is handed in,
// else zero answers.
func TestNoNet(t *testing.T) {
	var none *net.Net[string]
	for name, n := range map[string]*net.Net[string]{"nil": none, "zero": {}, "new": new(net.Net[string]), "a copy of nil": none.Copy()} {
		t.Run(name, func(t *testing.T) {
			for range 2 {
				nothingIsSent(t, n)
				nothingIsSeen(t, n)
			}
		})
	}
}

// nothingIsSent asks with lists and places that may be, and with such that may not: ErrNil is ahead of all others.
func nothingIsSent(t *testing.T, n *net.Net[string]) {
	t.Helper()
	for _, l := range [][]string{nil, {}, {"a"}, make([]string, api.MaxWay), make([]string, api.MaxWay+1)} {
		wantErrno(t, "Send", n.Send(l...), api.ErrNil)
	}
	for _, place := range []int{math.MinInt, -1, 0, 1, api.MaxWay, math.MaxInt} {
		if got, e := n.At(place); got != "" || e != api.ErrNil {
			t.Errorf("At(%d): %q, %v", place, got, e)
		}
		if got, e := n.Take(place); got != "" || e != api.ErrNil {
			t.Errorf("Take(%d): %q, %v", place, got, e)
		}
		wantErrno(t, "Twin", n.Twin(place), api.ErrNil)
		wantErrno(t, "Lose", n.Lose(place), api.ErrNil)
	}
}

func nothingIsSeen(t *testing.T, n *net.Net[string]) {
	t.Helper()
	asked := func(string) bool { t.Error("it is asked what to keep"); return false }
	if n.Len() != 0 || n.Sent() != 0 || n.Keep(nil) != 0 || n.Keep(asked) != 0 {
		t.Errorf("Len %d, Sent %d", n.Len(), n.Sent())
	}
	if n.Copy() != nil {
		t.Error("its Copy is there")
	}
	all := n.All()
	if all == nil {
		t.Fatal("its All is nil")
	}
	wantAll(t, "All", all, "")
	wantAll(t, "All once more", all, "")
}
