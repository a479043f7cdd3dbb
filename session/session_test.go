package session_test

import (
	"fmt"
	"math"
	"strconv"
	"strings"
	"testing"

	"wicket/api"
	"wicket/session"
)

// most is the greatest number.
const most = math.MaxInt64

// seen is all that can be seen of a session, its answers as a text, so that it can be held against another one.
type seen struct {
	id, token int64
	window    int
	mark      int64
	kept      string
	size      int
}

// String tells only the first answers of many.
func (s seen) String() string {
	return fmt.Sprintf("id %d, token %d, window %d, mark %d, answers %.200q of %d bytes", s.id, s.token, s.window, s.mark, s.kept, s.size)
}

func see(s *session.Session) seen {
	return seen{id: s.Id(), token: s.Token(), window: s.Window(), mark: s.Mark(), kept: texts(s.Kept()), size: s.Size()}
}

func wantSeen(t *testing.T, what string, s *session.Session, want seen) {
	t.Helper()
	if got := see(s); s == nil || got != want {
		t.Errorf("%s: %v, want %v", what, got, want)
	}
}

// wantKept: the session 7 of the token 9, with these answers.
func wantKept(t *testing.T, what string, s *session.Session, window int, mark int64, kept string) {
	t.Helper()
	size := 0
	for _, k := range answers(kept) {
		size += len(k.Answer)
	}
	wantSeen(t, what, s, seen{id: 7, token: 9, window: window, mark: mark, kept: kept, size: size})
}

// texts writes answers as "3=a 5=", by number and bytes.
func texts(l []api.Kept) string {
	var words []string
	for _, k := range l {
		words = append(words, strconv.FormatInt(k.Number, 10)+"="+string(k.Answer))
	}
	return strings.Join(words, " ")
}

// answers reads what texts writes, of answers without spaces.
func answers(text string) []api.Kept {
	var l []api.Kept
	for _, word := range strings.Fields(text) {
		number, answer, _ := strings.Cut(word, "=")
		n, err := strconv.ParseInt(number, 10, 64)
		if err != nil {
			panic(err)
		}
		l = append(l, api.Kept{Number: n, Answer: []byte(answer)})
	}
	return l
}

// said tells a verdict as a word, with its answer, or an error; and all that must not be beside them.
func said(v api.Verdict, answer []byte, e api.Errno) string {
	if e != api.OK {
		if v != 0 || answer != nil {
			return fmt.Sprintf("%v, and beside it %d, %q", e, v, answer)
		}
		return e.Error()
	}
	word, ok := map[api.Verdict]string{api.VerdictNew: "new", api.VerdictStale: "stale", api.VerdictAhead: "ahead"}[v]
	switch {
	case v == api.VerdictAnswered:
		return "answered " + string(answer)
	case !ok || answer != nil:
		return fmt.Sprintf("the verdict %d, and beside it %q", v, answer)
	}
	return word
}

func wantCome(t *testing.T, s *session.Session, number, mark int64, want string) {
	t.Helper()
	if got := said(s.Come(number, mark)); got != want {
		t.Errorf("Come(%d, %d) of %v: %q, want %q", number, mark, see(s), got, want)
	}
}

func wantLook(t *testing.T, s *session.Session, number int64, want string) {
	t.Helper()
	was := see(s)
	if got := said(s.Look(number)); got != want {
		t.Errorf("Look(%d) of %v: %q, want %q", number, was, got, want)
	}
	wantSeen(t, "behind Look", s, was)
}

func wantPut(t *testing.T, s *session.Session, number int64, answer string, want api.Errno) {
	t.Helper()
	if got := s.Put(number, []byte(answer)); got != want {
		t.Errorf("Put(%d, %q) of %v: %v, want %v", number, answer, see(s), got, want)
	}
}

// wantRefused: a session that was not made.
func wantRefused(t *testing.T, what string, s *session.Session, e api.Errno) {
	t.Helper()
	if s != nil || e != api.ErrArg {
		t.Errorf("%s: a session %t, %v; want none, %v", what, s != nil, e, api.ErrArg)
	}
}

// of is the session 7 of the token 9, with this mark and these answers.
func of(t *testing.T, window int, mark int64, kept string) *session.Session {
	t.Helper()
	s, e := session.Of(7, 9, window, mark, answers(kept)...)
	if s == nil || e != api.OK {
		t.Fatalf("Of(7, 9, %d, %d, %.100q): a session %t, %v", window, mark, kept, s != nil, e)
	}
	return s
}

// The chapter's examples, row by row, on one session.
func TestExamples(t *testing.T) {
	s, e := session.New(0, 9, 2)
	wantRefused(t, "New(0, 9, 2)", s, e)
	s, e = session.New(1, 9, 65)
	wantRefused(t, "New(1, 9, 65)", s, e)

	s, e = session.New(1, 9, 2)
	if e != api.OK {
		t.Fatalf("New(1, 9, 2): %v", e)
	}
	wantSeen(t, "New(1, 9, 2)", s, seen{id: 1, token: 9, window: 2})
	wantCome(t, s, 1, 0, "new")
	wantPut(t, s, 1, "a", api.OK)
	wantCome(t, s, 1, 0, "answered a")
	wantPut(t, s, 1, "b", api.ErrFull)
	wantSeen(t, "row 2", s, seen{id: 1, token: 9, window: 2, kept: "1=a", size: 1})

	wantCome(t, s, 3, 0, "ahead")
	wantSeen(t, "ahead", s, seen{id: 1, token: 9, window: 2, kept: "1=a", size: 1})
	wantCome(t, s, 3, 1, "new")
	wantLook(t, s, 1, "stale")
	wantSeen(t, "row 3", s, seen{id: 1, token: 9, window: 2, mark: 1})

	wantPut(t, s, 4, "x", api.ErrNone)
	wantCome(t, s, 2, 2, "error 2")
	wantPut(t, s, 2, "", api.OK)
	wantCome(t, s, 2, 1, "answered ")
	wantSeen(t, "row 4", s, seen{id: 1, token: 9, window: 2, mark: 1, kept: "2="})
}

// edge is a number that may be handed in, and if it may be.
type edge struct {
	n     int64
	mayBe bool
}

func ids() []edge {
	return []edge{{math.MinInt64, false}, {math.MinInt32, false}, {-1, false}, {0, false}, {1, true}, {2, true}, {1 << 62, true}, {most - 1, true}, {most, true}}
}

func windows() []edge {
	return []edge{
		{math.MinInt64, false}, {-api.MaxWindow, false}, {-1, false}, {0, false}, {1, true}, {2, true}, {api.MaxWindow - 1, true}, {api.MaxWindow, true},
		{api.MaxWindow + 1, false}, {2 * api.MaxWindow, false}, {1<<32 + 1, false}, {most, false},
	}
}

func marks() []edge {
	return []edge{{math.MinInt64, false}, {-64, false}, {-1, false}, {0, true}, {1, true}, {63, true}, {64, true}, {65, true}, {most - 1, true}, {most, true}}
}

// P10.1: ids, tokens, windows, at their edges and beyond them, each with each.
func TestNew(t *testing.T) {
	for _, id := range ids() {
		for _, token := range ids() {
			for _, window := range windows() {
				s, e := session.New(id.n, token.n, int(window.n))
				what := fmt.Sprintf("New(%d, %d, %d)", id.n, token.n, window.n)
				if !id.mayBe || !token.mayBe || !window.mayBe {
					wantRefused(t, what, s, e)
					continue
				}
				wantSeen(t, what, s, seen{id: id.n, token: token.n, window: int(window.n)})
				wantErrno(t, what, e, api.OK)
			}
		}
	}
}

func wantErrno(t *testing.T, what string, got, want api.Errno) {
	t.Helper()
	if got != want {
		t.Errorf("%s: %v, want %v", what, got, want)
	}
}

// P10.1: marks, too; without answers, and with the first and the last one that may be.
func TestOf(t *testing.T) {
	for _, id := range ids() {
		for _, token := range ids() {
			for _, window := range windows() {
				for _, mark := range marks() {
					var kept []api.Kept
					for range 2 {
						s, e := session.Of(id.n, token.n, int(window.n), mark.n, kept...)
						what := fmt.Sprintf("Of(%d, %d, %d, %d, %q)", id.n, token.n, window.n, mark.n, texts(kept))
						if id.mayBe && token.mayBe && window.mayBe && mark.mayBe {
							wantErrno(t, what, e, api.OK)
							wantSeen(t, what, s, seen{id: id.n, token: token.n, window: int(window.n), mark: mark.n, kept: texts(kept), size: len(kept)})
						} else {
							wantRefused(t, what, s, e)
						}
						if mark.n < most {
							kept = []api.Kept{{Number: mark.n + 1, Answer: []byte("a")}}
						}
					}
				}
			}
		}
	}
}

// P10.1: answers within the window, rising, in each way; they need not follow on one another.
func TestOfAnswers(t *testing.T) {
	for _, x := range []struct {
		window int
		mark   int64
		kept   string
	}{
		{1, 0, ""}, {1, 0, "1="}, {1, 0, "1=a"}, {1, 5, "6=a"}, {2, 0, "1=a 2=b"}, {2, 0, "2=b"}, {2, 5, "6= 7="}, {4, 5, "6=a 9=d"}, {4, 5, "7=bb 8="}, {4, 5, "9=d"},
		{64, 0, "64=z"}, {64, 1, "65=z"}, {64, 63, "64=a 65=b 127=z"}, {64, 64, "65=a 128=z"}, {64, 100, "101=a 127=b 128=c 164=z"},
		{64, most, ""}, {1, most - 1, "9223372036854775807=a"}, {64, most - 1, "9223372036854775807=a"}, {64, most - 64, "9223372036854775744=a 9223372036854775807=z"},
		{3, most - 3, "9223372036854775805=a 9223372036854775806=b 9223372036854775807=c"},
	} {
		wantKept(t, "Of", of(t, x.window, x.mark, x.kept), x.window, x.mark, x.kept)
	}
}

// P10.1: answers that are not rising, twice for one number, at or below the mark, farther than the window; whatever stands ahead of and behind them.
func TestOfWrongAnswers(t *testing.T) {
	for _, x := range []struct {
		window int
		mark   int64
		kept   string
	}{
		{1, 0, "0=a"}, {1, 0, "-1=a"}, {1, 0, "2=a"}, {1, 0, "1=a 1=a"}, {1, 0, "1=a 2=b"}, {1, 0, "1=a 1=b"}, {1, 5, "5=a"}, {1, 5, "7=a"}, {1, 5, "4=a"}, {1, 5, "1=a"},
		{4, 0, "2=b 1=a"}, {4, 0, "1=a 3=c 2=b"}, {4, 0, "1=a 2=b 2=b 3=c"}, {4, 0, "0=z 1=a 2=b"}, {4, 0, "1=a 5=e"}, {4, 0, "1=a 2=b 3=c 4=d 5=e"}, {4, 0, "5=e 1=a"}, {4, 0, "3=c 3=c"},
		{4, 9, "9=a 10=b"}, {4, 9, "10=b 9=a"}, {4, 9, "10=b 14=f"}, {4, 9, "10=b 11=c 12=d 13=e 14=f"}, {4, 9, "13=e 12=d 11=c 10=b"}, {4, 9, "8=z 10=b"}, {4, 9, "1=a 2=b"},
		{64, 0, "65=a"}, {64, 0, "1=a 65=b"}, {64, 1, "66=a"}, {64, 1, "2=a 66=b"}, {64, 64, "64=a"}, {64, 64, "129=a"}, {64, 64, "-64=a"}, {63, 1, "65=a"},
		{1, 0, "9223372036854775807=a"}, {64, 0, "9223372036854775807=a"}, {64, 0, "-9223372036854775808=a"}, {64, most, "9223372036854775807=a"}, {64, most, "1=a"},
		{64, most, "-9223372036854775808=a"}, {64, most, "-9223372036854775745=a"}, {64, most - 1, "-9223372036854775808=a"}, {64, most - 1, "9223372036854775806=a"},
		{64, most - 1, "9223372036854775807=a -9223372036854775808=b"}, {64, most - 65, "9223372036854775807=a"}, {2, most - 2, "9223372036854775807=a 9223372036854775806=b"},
		{2, most - 2, "9223372036854775807=a 9223372036854775807=a"}, {1, most - 2, "9223372036854775807=a"},
	} {
		s, e := session.Of(7, 9, x.window, x.mark, answers(x.kept)...)
		wantRefused(t, fmt.Sprintf("Of(7, 9, %d, %d, %q)", x.window, x.mark, x.kept), s, e)
	}
}

// P10.1: just as many answers as the window, and one more, at each window, wherever the ring begins.
func TestOfFullWindows(t *testing.T) {
	for window := 1; window <= api.MaxWindow; window++ {
		for _, mark := range []int64{0, 1, 31, 62, 63, 64, 65, 1000, most - 64, most - int64(window)} {
			l := full(mark, window)
			s := of(t, window, mark, texts(l))
			wantKept(t, "full", s, window, mark, texts(l))
			if mark+int64(window) < most {
				more, e := session.Of(7, 9, window, mark, full(mark, window+1)...)
				wantRefused(t, "one more", more, e)
			}
			many, e := session.Of(7, 9, window, mark, append(l, l...)...)
			wantRefused(t, "twice as many", many, e)
		}
	}
}

// full is an answer of its own for each of many numbers above the mark.
func full(mark int64, many int) []api.Kept {
	var l []api.Kept
	for i := range int64(many) {
		l = append(l, api.Kept{Number: mark + 1 + i, Answer: []byte("a" + strconv.FormatInt(i, 10))})
	}
	return l
}

// P10.1: nil and empty lists and answers mean the same.
func TestOfNothing(t *testing.T) {
	for _, l := range [][]api.Kept{nil, {}} {
		s, e := session.Of(7, 9, 2, 5, l...)
		wantErrno(t, "Of with a list of none", e, api.OK)
		wantKept(t, "a list of none", s, 2, 5, "")
	}
	for _, nothing := range [][]byte{nil, {}} {
		s, e := session.Of(7, 9, 2, 5, api.Kept{Number: 6, Answer: nothing}, api.Kept{Number: 7, Answer: nothing})
		wantErrno(t, "Of with answers of no bytes", e, api.OK)
		wantKept(t, "answers of no bytes", s, 2, 5, "6= 7=")
		wantCome(t, s, 6, 0, "answered ")
		wantPut(t, s, 7, "x", api.ErrFull)
	}
	s, e := session.Of(7, 9, 2, 5, api.Kept{})
	wantRefused(t, "Of with a zero answer", s, e)
}
