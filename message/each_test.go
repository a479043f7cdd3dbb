package message_test

import (
	"iter"
	"math/rand"
	"slices"
	"testing"

	"wicket/api"
	"wicket/message"
)

// placed is what Each tells at a time.
type placed struct {
	place int
	form  string
}

// passOver tells at most so many; all of them, if most is below 0.
func passOver(each iter.Seq2[int, []byte], most int) []placed {
	var l []placed
	if most == 0 {
		return l
	}
	for place, b := range each {
		l = append(l, placed{place, string(b)})
		if len(l) == most {
			break
		}
	}
	return l
}

func wantEach(t *testing.T, what string, each iter.Seq2[int, []byte], want []placed) {
	t.Helper()
	if got := passOver(each, -1); !slices.Equal(got, want) {
		t.Errorf("%s: %s, want %s", what, shortly(got), shortly(want))
	}
}

// plainEach is what the words say of Each.
func plainEach(l []api.Message) []placed {
	var told []placed
	for place, m := range l {
		if plainMayBe(m) {
			told = append(told, placed{place, plainForm(m)})
		}
	}
	return told
}

// mixed are messages of each kind with some between them, at the ends too, that may not be, and what Each tells of them.
func mixed() ([]api.Message, []placed) {
	l := append([]api.Message{{}, asks(8, opening(5))}, eachKind()...)
	l = append(l, tells(0, api.Reply{}), asks(7, calling(1, 2, 1, parsed("put t k v; swap t k +a b; scan t a z 9"))), asks(0, expire(1)), tells(1, full(9)), api.Message{Kind: 3})
	return l, plainEach(l)
}

// P15.3: each place with its bytes, in order; those left out that may not be.
func TestEach(t *testing.T) {
	for _, none := range [][]api.Message{nil, {}, {{}}, {asks(8, opening(5)), {}, tells(0, answered(1, 1, nil))}} {
		each := message.Each(none...)
		if each == nil {
			t.Fatal("Each is nil")
		}
		wantEach(t, "none", each, nil)
		wantEach(t, "none once more", each, nil)
	}
	want := []placed{{1, "\x01\x00\x01\x05"}, {3, "\x02\x01\x02\x09"}, {4, "\x02\x01\x02\x09"}}
	wantEach(t, "some", message.Each(api.Message{}, asks(0, opening(5)), asks(0, opening(0)), tells(1, full(9)), tells(1, full(9)), api.Message{}), want)
	l, want := mixed()
	if len(want) != 13 || want[0].place != 2 {
		t.Fatalf("%d of %d may be", len(want), len(l))
	}
	wantEach(t, "mixed", message.Each(l...), want)
	r := rand.New(rand.NewSource(154))
	for many := range 200 {
		l = nil
		for i := range many {
			m := someMessage(r)
			for n := i % 3; n > 0; n-- {
				harm(r, &m)
			}
			l = append(l, m)
		}
		wantEach(t, "any", message.Each(l...), plainEach(l))
	}
}

// P15.3: it may be left anywhere, and is gone over from the front each time; what leaves it is told nothing more.
func TestEachLeftAndGoneOverAgain(t *testing.T) {
	l, want := mixed()
	each := message.Each(l...)
	for most := range len(want) + 1 {
		if got := passOver(each, most); !slices.Equal(got, want[:most]) {
			t.Errorf("left behind %d: %s", most, shortly(got))
		}
		wantEach(t, "once more", each, want)
		wantEach(t, "and once more", each, want)
	}
	for most := 1; most < len(want)+2; most++ {
		calls := 0
		each(func(int, []byte) bool {
			calls++
			return calls < most
		})
		if calls != min(most, len(want)) {
			t.Errorf("told %d, left behind %d", calls, most)
		}
	}
}

// P15.3: passes within passes, and two iterators of the same messages, know nothing of each other.
func TestEachWithinEach(t *testing.T) {
	l, want := mixed()
	each, another := message.Each(l...), message.Each(l...)
	outer := 0
	for place, b := range each {
		if (placed{place, string(b)}) != want[outer] {
			t.Errorf("the pass outside tells %d, % x", place, b)
		}
		outer++
		wantEach(t, "the same one within", each, want)
		passOver(each, 1)
		wantEach(t, "another one within", another, want)
	}
	if outer != len(want) {
		t.Errorf("the pass outside told %d", outer)
	}
}

// spoilMessages makes each message another one, lists and what is in them too.
func spoilMessages(l []api.Message) {
	for i := range l {
		spoilMessage(l[i])
		l[i] = asks(5, opening(55))
	}
}

// P15.3: the messages as they were when Each was called, whatever becomes of them ahead of a pass, within one or behind it.
func TestEachAsTheyWere(t *testing.T) {
	l, want := mixed()
	each := message.Each(l...)
	spoilMessages(l)
	wantEach(t, "messages that are others since", each, want)
	l, want = mixed()
	each = message.Each(l...)
	seen := 0
	for place, b := range each {
		if (placed{place, string(b)}) != want[seen] {
			t.Errorf("spoilt within the pass: %d, % x", place, b)
		}
		seen++
		spoilMessages(l)
	}
	if seen != len(want) {
		t.Errorf("told %d while the messages were spoilt", seen)
	}
	wantEach(t, "spoilt messages", each, want)
}

// P15.3: what a pass tells is the caller's: neither another pass nor another message's bytes have part of it.
func TestEachTellsNewBytes(t *testing.T) {
	l, want := mixed()
	each := message.Each(l...)
	var kept [][]byte
	for _, b := range each {
		kept = append(kept, b)
	}
	for _, b := range each {
		spoil(b)
	}
	wantEach(t, "spoilt", each, want)
	for i, b := range kept {
		if string(b) != want[i].form {
			t.Errorf("the bytes %d are % x now", i, b)
		}
		spoil(b)
	}
	wantEach(t, "spoilt again", each, want)
}

// P15.3: several at a time may go over one.
func TestEachAtATime(t *testing.T) {
	l, want := mixed()
	each := message.Each(l...)
	told := make(chan bool)
	for range 4 {
		go func() { told <- slices.Equal(passOver(each, -1), want) }()
	}
	for range 4 {
		if !<-told {
			t.Error("a pass told something else")
		}
	}
}
