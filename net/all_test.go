package net_test

import (
	"iter"
	"slices"
	"strings"
	"testing"

	"wicket/api"
	"wicket/net"
)

// placed is what All tells at a time.
type placed struct {
	place int
	word  string
}

// passOver tells at most so many; all of them, if most is below 0.
func passOver(all iter.Seq2[int, string], most int) []placed {
	var l []placed
	if most == 0 {
		return l
	}
	for place, word := range all {
		l = append(l, placed{place, word})
		if len(l) == most {
			break
		}
	}
	return l
}

func wantAll(t *testing.T, what string, all iter.Seq2[int, string], text string) {
	t.Helper()
	var want []placed
	for place, word := range strings.Fields(text) {
		want = append(want, placed{place, word})
	}
	if got := passOver(all, -1); !slices.Equal(got, want) {
		t.Errorf("%s: %v, want %v", what, got, want)
	}
}

// changes are all that changes a net of three things or more.
func changes() map[string]func(n *net.Net[string]) {
	return map[string]func(n *net.Net[string]){
		"Send":      func(n *net.Net[string]) { n.Send("x", "y") },
		"Take":      func(n *net.Net[string]) { n.Take(0) },
		"Take last": func(n *net.Net[string]) { n.Take(n.Len() - 1) },
		"Lose":      func(n *net.Net[string]) { n.Lose(1) },
		"Twin":      func(n *net.Net[string]) { n.Twin(1) },
		"Keep":      func(n *net.Net[string]) { n.Keep(func(s string) bool { return s == "b" }) },
		"Keep none": func(n *net.Net[string]) { n.Keep(func(s string) bool { return false }) },
		"swap": func(n *net.Net[string]) {
			n.Take(0)
			n.Send("x")
			n.Take(0)
			n.Send("y")
			n.Take(0)
			n.Send("z")
		},
	}
}

// P16.3: the places from 0 on, each with its thing.
func TestAll(t *testing.T) {
	for _, text := range []string{"", "a", "a b c", "c a c b a"} {
		n := onWay(t, text)
		all := n.All()
		if all == nil {
			t.Fatal("All is nil")
		}
		wantAll(t, "All", all, text)
	}
	n := onWay(t, "a b c d")
	n.Twin(1)
	n.Take(0)
	n.Lose(1)
	wantAll(t, "All behind changes", n.All(), "b d b")
	wantNumbers(t, "All of a full net", filled(t), places(api.MaxWay), api.MaxWay)
}

// P16.3: it may be left anywhere, and gone over again; what leaves it is told nothing more.
func TestAllLeftAndGoneOverAgain(t *testing.T) {
	n := onWay(t, "a b c d")
	all := n.All()
	want := passOver(all, -1)
	for most := range len(want) + 1 {
		if got := passOver(all, most); !slices.Equal(got, want[:most]) {
			t.Errorf("left behind %d: %v", most, got)
		}
		wantAll(t, "once more", all, "a b c d")
	}
	for most := 1; most < len(want)+2; most++ {
		calls := 0
		all(func(int, string) bool {
			calls++
			return calls < most
		})
		if calls != min(most, len(want)) {
			t.Errorf("told %d, left behind %d", calls, most)
		}
	}
}

// P16.3: as they stand when All is called, not when it is gone over.
func TestAllAsTheyStood(t *testing.T) {
	for name, change := range changes() {
		n := onWay(t, "a b c")
		all := n.All()
		change(n)
		wantAll(t, name+" ahead of a pass", all, "a b c")
		change(n)
		wantAll(t, name+" between passes", all, "a b c")

		n = onWay(t, "a b c")
		all = n.All()
		told := ""
		for place, word := range all {
			if place != len(told) {
				t.Errorf("%s within a pass: the place %d behind %q", name, place, told)
			}
			told += word
			change(n)
		}
		if told != "abc" {
			t.Errorf("%s within a pass: %q", name, told)
		}
		wantAll(t, name+" behind a pass", all, "a b c")
	}
	n := net.New[string]()
	none := n.All()
	n.Send("a")
	wantAll(t, "none at that time", none, "")
	wantAll(t, "one now", n.All(), "a")
}

// P16.3: going over changes nothing; passes within passes know nothing of each other.
func TestAllWithinAll(t *testing.T) {
	n := onWay(t, "a b c")
	all, another := n.All(), n.All()
	told := ""
	for _, word := range all {
		told += word
		wantAll(t, "the same one within", all, "a b c")
		passOver(all, 1)
		wantAll(t, "another one within", another, "a b c")
		wantAll(t, "a new one within", n.All(), "a b c")
	}
	if told != "abc" {
		t.Errorf("the pass outside tells %q", told)
	}
	wantWay(t, "gone over", n, "a b c", 3)
}

// P16.3: taking all that All tells, each by its place at the time.
func TestAllTakenByTheWay(t *testing.T) {
	n := onWay(t, "a b c d")
	for place, word := range n.All() {
		wantTake(t, n, 0, word)
		if n.Len() != 3-place {
			t.Errorf("Len: %d", n.Len())
		}
	}
	wantWay(t, "all taken", n, "", 4)
}

// P16.3: several at a time may go over one, while the net goes on.
func TestAllAtATime(t *testing.T) {
	n := onWay(t, "a b c d")
	all := n.All()
	want := passOver(all, -1)
	told := make(chan bool)
	for range 4 {
		go func() { told <- slices.Equal(passOver(all, -1), want) }()
	}
	n.Take(0)
	n.Send("x")
	n.Keep(func(s string) bool { return s != "c" })
	for range 4 {
		if !<-told {
			t.Error("a pass told something else")
		}
	}
}
