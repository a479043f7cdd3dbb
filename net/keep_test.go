package net_test

import (
	"slices"
	"strings"
	"testing"

	"wicket/api"
	"wicket/net"
)

func wantKept(t *testing.T, n *net.Net[string], is func(string) bool, gone int, left string, sent int64) {
	t.Helper()
	if got := n.Keep(is); got != gone {
		t.Errorf("Keep: %d, want %d", got, gone)
	}
	wantWay(t, "Keep", n, left, sent)
}

// P16.3: those of which it says no have gone, the others stand in the order they stood in.
func TestKeep(t *testing.T) {
	for _, one := range []struct {
		out  string
		gone int
		left string
	}{
		{"", 0, "a b c a d"}, {"a", 2, "b c d"}, {"b", 1, "a c a d"}, {"d", 1, "a b c a"}, {"bc", 2, "a a d"}, {"ad", 3, "b c"}, {"bcd", 3, "a a"}, {"abc", 4, "d"}, {"abcd", 5, ""}, {"xyz", 0, "a b c a d"},
	} {
		n := onWay(t, "a b c a d")
		stays := func(s string) bool { return !strings.Contains(one.out, s) }
		wantKept(t, n, stays, one.gone, one.left, 5)
		wantKept(t, n, stays, 0, one.left, 5)
		wantErrno(t, "Send", n.Send("a", "x"), api.OK)
		wantWay(t, "behind Keep", n, one.left+" a x", 7)
	}
}

// P16.3: without a function nothing goes; without things nothing is asked.
func TestKeepOfNothing(t *testing.T) {
	n := onWay(t, "a b")
	wantKept(t, n, nil, 0, "a b", 2)
	wantKept(t, net.New[string](), nil, 0, "", 0)
	asked := func(string) bool { t.Error("it is asked"); return false }
	wantKept(t, net.New[string](), asked, 0, "", 0)
	n.Take(0)
	n.Lose(0)
	wantKept(t, n, asked, 0, "", 2)
}

// P16.3: it is asked for each once, in order, whatever it says; the answers hang on nothing else.
func TestKeepAsksEachOnce(t *testing.T) {
	words := "a b a c b a"
	all := strings.Fields(words)
	for says := range 1 << len(all) {
		n := onWay(t, words)
		var asked, left []string
		gone := n.Keep(func(s string) bool {
			stays := says>>len(asked)&1 == 1
			asked = append(asked, s)
			if stays {
				left = append(left, s)
			}
			return stays
		})
		if !slices.Equal(asked, all) || gone != len(all)-len(left) {
			t.Errorf("asked for %q, %d have gone", asked, gone)
		}
		wantWay(t, "Keep", n, strings.Join(left, " "), 6)
	}
}

// P16.3: as many as may be on the way, behind Takes and Twins.
func TestKeepOfMany(t *testing.T) {
	n := filled(t)
	for range 1000 {
		n.Twin(0)
		n.Take(0)
		n.Twin(0)
	}
	all := row(n)
	odd := func(x int) bool { return x%2 == 1 }
	want := slices.DeleteFunc(slices.Clone(all), func(x int) bool { return !odd(x) })
	if gone := n.Keep(odd); gone != len(all)-len(want) {
		t.Errorf("Keep: %d", gone)
	}
	wantNumbers(t, "Keep", n, want, int64(len(all)+1000))
	if gone := n.Keep(func(int) bool { return false }); gone != len(want) {
		t.Errorf("Keep of none: %d", gone)
	}
	wantNumbers(t, "Keep of none", n, nil, int64(len(all)+1000))
}

// P16.3, P16.4: a function that sends, takes, loses and doubles by the way: it is asked for those that stood there, and what
// it does itself is neither undone nor counted twice.
func TestKeepWithAFunctionThatGoesOn(t *testing.T) {
	for name, one := range map[string]struct {
		also func(n *net.Net[string], s string)
		out  string
		gone int
		left string
		sent int64
	}{
		"sends":            {func(n *net.Net[string], s string) { n.Send(s + s) }, "b", 1, "a c aa bb cc", 6},
		"sends, all out":   {func(n *net.Net[string], s string) { n.Send(s) }, "abc", 3, "a b c", 6},
		"takes":            {func(n *net.Net[string], s string) { n.Take(0) }, "b", 0, "", 3},
		"takes the last":   {func(n *net.Net[string], s string) { n.Take(2) }, "b", 1, "a", 3},
		"takes, sends":     {func(n *net.Net[string], s string) { n.Take(0); n.Send(s) }, "b", 0, "a b c", 6},
		"loses the first":  {func(n *net.Net[string], s string) { n.Lose(0); n.Send("x") }, "c", 0, "x x x", 6},
		"doubles":          {func(n *net.Net[string], s string) { n.Twin(0) }, "a", 1, "b c a a a", 6},
		"keeps all":        {func(n *net.Net[string], s string) { n.Keep(func(string) bool { return true }) }, "a", 1, "b c", 3},
		"keeps none":       {func(n *net.Net[string], s string) { n.Keep(func(string) bool { return false }) }, "a", 0, "", 3},
		"keeps but the c":  {func(n *net.Net[string], s string) { n.Keep(func(s string) bool { return s != "c" }) }, "ac", 1, "b", 3},
		"copies and sends": {func(n *net.Net[string], s string) { n.Copy().Send(s) }, "c", 1, "a b", 3},
	} {
		n := onWay(t, "a b c")
		asked := ""
		gone := n.Keep(func(s string) bool {
			asked += s
			one.also(n, s)
			return !strings.Contains(one.out, s)
		})
		if asked != "abc" || gone != one.gone {
			t.Errorf("%s: asked for %q, %d have gone, want %d", name, asked, gone, one.gone)
		}
		wantWay(t, name, n, one.left, one.sent)
	}
}

// A function that fills the net while it is asked: the bound holds behind it, too.
func TestKeepWithAFunctionThatFills(t *testing.T) {
	n := filled(t)
	n.Take(0)
	gone := n.Keep(func(x int) bool {
		n.Send(-x)
		return x > 3
	})
	if gone != 3 || n.Len() != api.MaxWay-3 || n.Sent() != api.MaxWay+1 {
		t.Errorf("Keep: %d; Len: %d; Sent: %d", gone, n.Len(), n.Sent())
	}
	if last, e := n.At(n.Len() - 1); last != -1 || e != api.OK {
		t.Errorf("the last one is %d, %v", last, e)
	}
}
