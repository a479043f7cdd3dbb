package session_test

import (
	"math"
	"testing"

	"wicket/api"
)

// P10.2: Look, at the mark, one above it, as far above it as the window, one farther; with answers and without.
func TestLook(t *testing.T) {
	for _, x := range []struct {
		window int
		mark   int64
		kept   string
		number int64
		want   string
	}{
		{1, 0, "", math.MinInt64, "error 2"}, {1, 0, "", -1, "error 2"}, {1, 0, "", 0, "error 2"}, {1, 0, "", 1, "new"}, {1, 0, "", 2, "ahead"}, {1, 0, "", most, "ahead"},
		{1, 0, "1=a", 1, "answered a"}, {1, 0, "1=", 1, "answered "}, {1, 0, "1=a", 2, "ahead"}, {1, 0, "1=a", 65, "ahead"}, {1, 0, "1=a", 0, "error 2"}, {1, 0, "1=a", -63, "error 2"},
		{4, 9, "11=b 13=", 0, "error 2"}, {4, 9, "11=b 13=", 1, "stale"}, {4, 9, "11=b 13=", 8, "stale"}, {4, 9, "11=b 13=", 9, "stale"}, {4, 9, "11=b 13=", 10, "new"},
		{4, 9, "11=b 13=", 11, "answered b"}, {4, 9, "11=b 13=", 12, "new"}, {4, 9, "11=b 13=", 13, "answered "}, {4, 9, "11=b 13=", 14, "ahead"}, {4, 9, "11=b 13=", 75, "ahead"},
		{64, 0, "", 64, "new"}, {64, 0, "", 65, "ahead"}, {64, 0, "1=a", 65, "ahead"}, {64, 0, "64=z", 64, "answered z"}, {64, 0, "64=z", 128, "ahead"}, {64, 0, "64=z", 0, "error 2"},
		{64, 70, "71=a 134=z", 7, "stale"}, {64, 70, "71=a 134=z", 70, "stale"}, {64, 70, "71=a 134=z", 71, "answered a"}, {64, 70, "71=a 134=z", 133, "new"},
		{64, 70, "71=a 134=z", 134, "answered z"}, {64, 70, "71=a 134=z", 135, "ahead"}, {64, 70, "71=a 134=z", 198, "ahead"},
		{64, most, "", 1, "stale"}, {64, most, "", most - 1, "stale"}, {64, most, "", most, "stale"}, {64, most, "", 0, "error 2"}, {64, most, "", math.MinInt64, "error 2"},
		{1, most - 1, "", most, "new"}, {1, most - 1, "", most - 1, "stale"}, {64, most - 1, "9223372036854775807=a", most, "answered a"},
		{1, most - 2, "", most, "ahead"}, {1, most - 2, "", most - 1, "new"}, {2, most - 2, "", most, "new"}, {63, most - 64, "", most, "ahead"}, {64, most - 64, "", most, "new"},
		{64, most - 65, "", most, "ahead"}, {64, most - 65, "", most - 1, "new"}, {64, 1, "", most, "ahead"}, {1, 0, "", math.MaxInt32, "ahead"}, {64, 0, "", 1 << 32, "ahead"}, {64, 0, "", 1<<32 + 1, "ahead"},
	} {
		s := of(t, x.window, x.mark, x.kept)
		wantLook(t, s, x.number, x.want)
		wantKept(t, "behind Look", s, x.window, x.mark, x.kept)
	}
}

// coming is a session, what comes to it, what it says, and its mark and answers behind that.
type coming struct {
	window       int
	mark         int64
	kept         string
	number, with int64
	want         string
	markNow      int64
	keptNow      string
}

func (x coming) check(t *testing.T) {
	t.Helper()
	s := of(t, x.window, x.mark, x.kept)
	wantCome(t, s, x.number, x.with, x.want)
	wantKept(t, "behind Come", s, x.window, x.markNow, x.keptNow)
}

// P10.2: a mark that comes with a number: 0, lower than the session's, the same, above it, just below the number; it reaches
// none, some and all of the answers.
func TestCome(t *testing.T) {
	const all = "10=a 11=b 13=d"
	for _, x := range []coming{
		{4, 9, all, 10, 0, "answered a", 9, all}, {4, 9, all, 10, 8, "answered a", 9, all}, {4, 9, all, 10, 9, "answered a", 9, all}, {4, 9, all, 12, 9, "new", 9, all},
		{4, 9, all, 12, 0, "new", 9, all}, {4, 9, all, 13, 1, "answered d", 9, all}, {4, 9, all, 14, 0, "ahead", 9, all}, {4, 9, all, 14, 9, "ahead", 9, all}, {4, 9, all, most, 9, "ahead", 9, all},
		{4, 9, all, 11, 10, "answered b", 10, "11=b 13=d"}, {4, 9, all, 12, 10, "new", 10, "11=b 13=d"}, {4, 9, all, 13, 10, "answered d", 10, "11=b 13=d"},
		{4, 9, all, 14, 10, "new", 10, "11=b 13=d"}, {4, 9, all, 15, 10, "ahead", 10, "11=b 13=d"}, {4, 9, all, 12, 11, "new", 11, "13=d"}, {4, 9, all, 13, 11, "answered d", 11, "13=d"},
		{4, 9, all, 13, 12, "answered d", 12, "13=d"}, {4, 9, all, 16, 12, "new", 12, "13=d"}, {4, 9, all, 17, 12, "ahead", 12, "13=d"},
		{4, 9, all, 14, 13, "new", 13, ""}, {4, 9, all, 17, 13, "new", 13, ""}, {4, 9, all, 18, 13, "ahead", 13, ""}, {4, 9, all, 18, 14, "new", 14, ""}, {4, 9, all, 100, 99, "new", 99, ""},
		{4, 9, all, most, 13, "ahead", 13, ""}, {4, 9, all, most, most - 5, "ahead", most - 5, ""}, {4, 9, all, most, most - 4, "new", most - 4, ""}, {4, 9, all, most, most - 1, "new", most - 1, ""},
		{4, 9, "13=d", 13, 10, "answered d", 10, "13=d"}, {4, 9, "13=", 13, 12, "answered ", 12, "13="}, {4, 9, "", 10, 9, "new", 9, ""}, {4, 9, "", 11, 10, "new", 10, ""},
		{1, 0, "", 1, 0, "new", 0, ""}, {1, 0, "1=a", 2, 1, "new", 1, ""}, {1, 0, "1=a", 3, 1, "ahead", 1, ""}, {1, 0, "1=a", 2, 0, "ahead", 0, "1=a"},
		{64, 0, "1=a 64=z", 65, 1, "new", 1, "64=z"}, {64, 0, "1=a 64=z", 65, 0, "ahead", 0, "1=a 64=z"}, {64, 0, "1=a 64=z", 128, 64, "new", 64, ""}, {64, 0, "1=a 64=z", 128, 63, "ahead", 63, "64=z"},
		{64, most, "", most, most - 1, "stale", most, ""}, {64, most - 1, "9223372036854775807=a", most, most - 1, "answered a", most - 1, "9223372036854775807=a"},
		{64, most - 64, "9223372036854775744=a 9223372036854775807=z", most, most - 63, "answered z", most - 63, "9223372036854775807=z"},
	} {
		x.check(t)
	}
}

// P10.2: what is not above the session's mark is stale, whatever mark it comes with, and changes nothing.
func TestComeStale(t *testing.T) {
	const all = "10=a 11=b 13=d"
	for number := int64(1); number <= 9; number++ {
		for mark := range number {
			coming{4, 9, all, number, mark, "stale", 9, all}.check(t)
		}
	}
	coming{64, most, "", most, most - 1, "stale", most, ""}.check(t)
	coming{64, most - 1, "", most - 1, most - 2, "stale", most - 1, ""}.check(t)
	coming{1, 64, "65=a", 1, 0, "stale", 64, "65=a"}.check(t)
}

// P10.2: a number below 1, a mark below 0, at the number, above it: refused, and nothing changes, even if the number is stale.
func TestComeWrong(t *testing.T) {
	const all = "10=a 11=b 13=d"
	for _, number := range []int64{math.MinInt64, math.MinInt64 + 1, -64, -1, 0} {
		for _, mark := range []int64{math.MinInt64, number, number + 1, -65, -2, -1, 0, 1, 9, 10, 12, 64, most} {
			coming{4, 9, all, number, mark, "error 2", 9, all}.check(t)
			coming{1, 0, "", number, mark, "error 2", 0, ""}.check(t)
		}
		wantLook(t, of(t, 4, 9, all), number, "error 2")
	}
	for _, number := range []int64{1, 2, 8, 9, 10, 11, 12, 13, 14, 64, 74, most - 1, most} {
		for _, mark := range []int64{math.MinInt64, -most, -number, -64, -1, number, max(number, most-1), most} {
			coming{4, 9, all, number, mark, "error 2", 9, all}.check(t)
			coming{64, most, "", number, mark, "error 2", most, ""}.check(t)
		}
	}
}

// P10.2: a mark goes up also with a number that is ahead, and does with one that has an answer.
func TestComeRaisesTheMarkWhateverItSays(t *testing.T) {
	s := of(t, 2, 0, "1=a 2=b")
	wantCome(t, s, 2, 1, "answered b")
	wantKept(t, "answered", s, 2, 1, "2=b")
	wantCome(t, s, 9, 2, "ahead")
	wantKept(t, "ahead", s, 2, 2, "")
	wantCome(t, s, 4, 3, "new")
	wantKept(t, "new", s, 2, 3, "")
	wantCome(t, s, 3, 2, "stale")
	wantKept(t, "stale", s, 2, 3, "")
}

// P10.2, P10.3: numbers whose places in the ring meet again: each is new at first, and has only its own answer.
func TestNumbersMeetAgain(t *testing.T) {
	for _, window := range []int{1, 2, 3, 31, 32, 33, 63, 64} {
		for _, from := range []int64{0, 1 << 40, most - 300} {
			s := of(t, window, from, "")
			for i := int64(1); i <= 300; i++ {
				number := from + i
				mark := max(number-int64(window), 0)
				wantCome(t, s, number, mark, "new")
				wantPut(t, s, number, string(rune('a'+i%26)), api.OK)
				wantLook(t, s, number, "answered "+string(rune('a'+i%26)))
				if mark > from {
					wantLook(t, s, mark, "stale")
				}
				for _, far := range []int64{64, 128, int64(window)} {
					if number <= most-far {
						wantLook(t, s, number+far, "ahead")
					}
				}
				if l := s.Kept(); len(l) != int(min(i, int64(window))) || l[len(l)-1].Number != number {
					t.Fatalf("window %d, number %d: %q", window, number, texts(l))
				}
			}
		}
	}
}

// P10.2: a leap of the mark by whole rings forgets all, and the old answers' places are free.
func TestMarkLeaps(t *testing.T) {
	for _, leap := range []int64{64, 65, 127, 128, 129, 640, 1 << 32, most - 70} {
		s := of(t, 64, 0, texts(full(0, 64)))
		wantCome(t, s, leap+1, leap, "new")
		wantKept(t, "behind the leap", s, 64, leap, "")
		for i := int64(1); i <= 64; i++ {
			wantLook(t, s, leap+i, "new")
			wantLook(t, s, i, "stale")
		}
	}
}

// P10.3: what is stale, what is ahead, what has an answer already: refused, and nothing changes.
func TestPutRefused(t *testing.T) {
	const all = "10=a 11= 13=d"
	for _, x := range []struct {
		number int64
		want   api.Errno
	}{
		{math.MinInt64, api.ErrArg}, {-64, api.ErrArg}, {-54, api.ErrArg}, {-1, api.ErrArg}, {0, api.ErrArg}, {1, api.ErrNone}, {8, api.ErrNone}, {9, api.ErrNone}, {10, api.ErrFull},
		{11, api.ErrFull}, {13, api.ErrFull}, {14, api.ErrNone}, {15, api.ErrNone}, {74, api.ErrNone}, {76, api.ErrNone}, {1 << 32, api.ErrNone}, {most - 1, api.ErrNone}, {most, api.ErrNone},
	} {
		for _, answer := range []string{"", "d", "other"} {
			s := of(t, 4, 9, all)
			wantPut(t, s, x.number, answer, x.want)
			wantPut(t, s, x.number, answer, x.want)
			wantKept(t, "refused", s, 4, 9, all)
		}
	}
	for _, number := range []int64{1, 64, most - 1, most} {
		s := of(t, 64, most, "")
		wantPut(t, s, number, "a", api.ErrNone)
		wantKept(t, "the greatest mark", s, 64, most, "")
	}
}

// P10.3: in any order, with no bytes and with many, until the window is full; each one once.
func TestPut(t *testing.T) {
	s := of(t, 4, 9, "")
	for _, x := range []struct {
		number       int64
		answer, kept string
	}{{12, "c", "12=c"}, {10, "", "10= 12=c"}, {13, "dddd", "10= 12=c 13=dddd"}, {11, "b", "10= 11=b 12=c 13=dddd"}} {
		wantLook(t, s, x.number, "new")
		wantPut(t, s, x.number, x.answer, api.OK)
		wantKept(t, "put", s, 4, 9, x.kept)
		wantLook(t, s, x.number, "answered "+x.answer)
		wantPut(t, s, x.number, "other", api.ErrFull)
	}
	wantPut(t, s, 14, "e", api.ErrNone)
	wantKept(t, "full", s, 4, 9, "10= 11=b 12=c 13=dddd")
	wantCome(t, s, 14, 10, "new")
	wantPut(t, s, 14, "e", api.OK)
	wantPut(t, s, 10, "", api.ErrNone)
	wantKept(t, "one place further", s, 4, 10, "11=b 12=c 13=dddd 14=e")
}

// P10.3: an answer of no bytes is one, whether it is nil or empty.
func TestPutNothing(t *testing.T) {
	for _, nothing := range [][]byte{nil, {}} {
		s := of(t, 2, 0, "")
		wantErrno(t, "Put", s.Put(1, nothing), api.OK)
		wantKept(t, "put", s, 2, 0, "1=")
		wantErrno(t, "Put again", s.Put(1, nothing), api.ErrFull)
		wantErrno(t, "Put of another", s.Put(1, []byte("a")), api.ErrFull)
		wantCome(t, s, 1, 0, "answered ")
		wantCome(t, s, 2, 1, "new")
		wantKept(t, "forgotten", s, 2, 1, "")
	}
}

// P10.3: any bytes, and more of them than any result has.
func TestPutAnyBytes(t *testing.T) {
	many := make([]byte, 1<<20)
	for i := range many {
		many[i] = byte(i)
	}
	s := of(t, 2, 0, "")
	wantPut(t, s, 1, string(many), api.OK)
	wantPut(t, s, 2, "\x00\xff", api.OK)
	wantLook(t, s, 1, "answered "+string(many))
	wantLook(t, s, 2, "answered \x00\xff")
	if s.Size() != 1<<20+2 {
		t.Errorf("Size: %d", s.Size())
	}
}

// P10.3: at the greatest numbers, up to the greatest, in full windows.
func TestPutAtTheGreatest(t *testing.T) {
	for _, window := range []int{1, 2, 63, 64} {
		mark := most - int64(window)
		s := of(t, window, mark, "")
		l := full(mark, window)
		for _, k := range l {
			wantPut(t, s, k.Number, string(k.Answer), api.OK)
		}
		wantKept(t, "up to the greatest", s, window, mark, texts(l))
		wantCome(t, s, most, most-1, "answered "+string(l[window-1].Answer))
		wantKept(t, "the greatest", s, window, most-1, texts(l[window-1:]))
		other := of(t, window, most-1, texts(l[window-1:]))
		if !s.Same(other) {
			t.Errorf("window %d: not the same as %v", window, see(other))
		}
	}
}
