package session_test

import (
	"math"
	"math/big"
	"math/rand"
	"slices"
	"testing"

	"wicket/api"
	"wicket/session"
)

// plain is a session as the chapter's section 'Words' says it: answers by their numbers; sums are of numbers that always fit.
type plain struct {
	window int
	mark   int64
	kept   map[int64]string
}

func (p plain) list() []api.Kept {
	var l []api.Kept
	for number, answer := range p.kept {
		l = append(l, api.Kept{Number: number, Answer: []byte(answer)})
	}
	slices.SortFunc(l, func(a, b api.Kept) int { return big.NewInt(a.Number).Cmp(big.NewInt(b.Number)) })
	return l
}

func (p plain) copy() plain {
	c := plain{p.window, p.mark, map[int64]string{}}
	for number, answer := range p.kept {
		c.kept[number] = answer
	}
	return c
}

func (p plain) look(number int64) string {
	if number < 1 {
		return "error 2"
	}
	if number <= p.mark {
		return "stale"
	}
	if answer, ok := p.kept[number]; ok {
		return "answered " + answer
	}
	farthest := new(big.Int).Add(big.NewInt(p.mark), big.NewInt(int64(p.window)))
	if big.NewInt(number).Cmp(farthest) > 0 {
		return "ahead"
	}
	return "new"
}

func (p *plain) come(number, mark int64) string {
	if number < 1 || mark < 0 || mark >= number {
		return "error 2"
	}
	if number <= p.mark {
		return "stale"
	}
	if mark > p.mark {
		p.mark = mark
		for n := range p.kept {
			if n <= mark {
				delete(p.kept, n)
			}
		}
	}
	return p.look(number)
}

func (p *plain) put(number int64, answer string) api.Errno {
	switch p.look(number) {
	case "error 2":
		return api.ErrArg
	case "stale", "ahead":
		return api.ErrNone
	case "new":
		p.kept[number] = answer
		return api.OK
	}
	return api.ErrFull
}

// both is a session and what it must be.
type both struct {
	s *session.Session
	p plain
}

func (b both) copy() both {
	return both{b.s.Copy(), b.p.copy()}
}

func (b *both) come(t *testing.T, number, mark int64) {
	t.Helper()
	wantCome(t, b.s, number, mark, b.p.come(number, mark))
	b.check(t)
}

func (b *both) put(t *testing.T, number int64, answer string) {
	t.Helper()
	wantPut(t, b.s, number, answer, b.p.put(number, answer))
	b.check(t)
}

func (b *both) check(t *testing.T) {
	t.Helper()
	wantKept(t, "beside a plain one", b.s, b.p.window, b.p.mark, texts(b.p.list()))
}

// near is the numbers around the mark, as far as they are numbers, and the edges of all numbers.
func near(mark int64, window int) []int64 {
	l := []int64{math.MinInt64, -1, 0, 1, most - 1, most}
	for d := int64(-3); d <= int64(window)+3; d++ {
		if d <= most-max(mark, 0) {
			l = append(l, mark+d)
		}
	}
	for _, far := range []int64{64, 128} {
		if mark <= most-far {
			l = append(l, mark+far, mark+far+1)
		}
	}
	return l
}

// P10.2, P10.3: of small windows each session, and each step that it can take, at marks all around a ring and at the greatest.
func TestEachStepOfEachSession(t *testing.T) {
	from := []int64{0, 1, 2, 3, 60, 61, 62, 63, 64, 65, 126, 127, 128, 1 << 32, 1 << 62, most - 64, most - 4, most - 3, most - 2, most - 1, most}
	for _, mark := range from {
		for window := 1; window <= 4; window++ {
			for which := range 1 << window {
				p := plain{window, mark, map[int64]string{}}
				for i := range int64(window) {
					if which>>i&1 == 1 && i < most-mark {
						p.kept[mark+1+i] = []string{"a", "", "ccc", "d"}[i]
					}
				}
				eachStep(t, both{of(t, window, mark, texts(p.list())), p})
			}
			if t.Failed() {
				return
			}
		}
	}
}

func eachStep(t *testing.T, b both) {
	t.Helper()
	b.check(t)
	for _, number := range near(b.p.mark, b.p.window) {
		wantLook(t, b.s, number, b.p.look(number))
		c := b.copy()
		c.put(t, number, "x")
		for _, mark := range near(b.p.mark, b.p.window) {
			c := b.copy()
			c.come(t, number, mark)
			c.put(t, number, "y")
		}
	}
	b.check(t)
}

// someNumber is mostly one around the mark.
func someNumber(r *rand.Rand, p plain) int64 {
	if r.Intn(50) == 0 {
		return []int64{math.MinInt64, -1, 0, 1, most - 1, most}[r.Intn(6)]
	}
	d := int64(r.Intn(p.window+6) - 2)
	if d > most-p.mark {
		return most
	}
	return p.mark + d
}

// someMark is mostly one that the session's mark goes up to by little; leaps are few.
func someMark(r *rand.Rand, p plain, number int64) int64 {
	switch r.Intn(12) {
	case 0:
		return number
	case 1:
		return number - 1
	case 2:
		return p.mark - int64(r.Intn(3))
	case 3, 4, 5:
		return p.mark + min(int64(r.Intn(3)), most-p.mark)
	}
	return 0
}

// P10.1 to P10.4: any steps on several sessions, copies of each other and made of what is told, against the words.
func TestAnySteps(t *testing.T) {
	for seed := range int64(120) {
		r := rand.New(rand.NewSource(1000 + seed))
		window := []int{1, 2, 3, 7, 63, 64}[r.Intn(6)]
		mark := []int64{0, 0, 40, 64, 1 << 50, most - 200, most - 70}[r.Intn(7)]
		l := []both{{of(t, window, mark, ""), plain{window, mark, map[int64]string{}}}}
		for range 300 {
			at, other := r.Intn(len(l)), r.Intn(len(l))
			someStep(t, r, &l[at])
			if r.Intn(30) == 0 {
				if len(l) < 4 {
					l = append(l, l[at].copy())
				} else {
					l[other] = l[at].copy()
				}
			}
			l[other].check(t)
			number := someNumber(r, l[other].p)
			wantLook(t, l[other].s, number, l[other].p.look(number))
			same := l[at].p.mark == l[other].p.mark && texts(l[at].p.list()) == texts(l[other].p.list())
			wantSame(t, "two of them", l[at].s, l[other].s, same)
		}
		if t.Failed() {
			return
		}
	}
}

func someStep(t *testing.T, r *rand.Rand, b *both) {
	t.Helper()
	number := someNumber(r, b.p)
	if r.Intn(3) == 0 {
		b.come(t, number, someMark(r, b.p, number))
		return
	}
	b.put(t, number, []string{"", "a", "bb", "ccc"}[r.Intn(4)])
}
