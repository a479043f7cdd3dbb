package window_test

import (
	"math/rand"
	"testing"

	"wicket/api"
	"wicket/window"
)

// past is a window, and what it has said of its numbers so far.
type past struct {
	w          *window.Window[int64]
	size       int
	last, mark int64
	back       map[int64]bool
}

func newPast(t *testing.T, size int) *past {
	t.Helper()
	return &past{w: made[int64](t, size), size: size, back: map[int64]bool{}}
}

// give: numbers are given out once each, rising by one.
func (p *past) give(t *testing.T) {
	t.Helper()
	number, e := p.w.Give(-p.last - 1)
	if (e == api.OK) != (p.last-p.mark < int64(p.size)) {
		t.Errorf("Give with the mark %d and %d given out: %v", p.mark, p.last, e)
	}
	if e == api.OK {
		if number != p.last+1 {
			t.Errorf("the number %d behind %d", number, p.last)
		}
		p.last = number
	}
}

func (p *past) take(t *testing.T, number int64) {
	t.Helper()
	x, e := p.w.Back(number)
	is := number >= 1 && number <= p.last && !p.back[number]
	if (e == api.OK) != is || e == api.OK && x != -number {
		t.Errorf("Back(%d): %d, %v", number, x, e)
	}
	if e == api.OK {
		p.back[number] = true
	}
}

// check: the mark never falls, and is at most Last; Last less the mark is at most the size; Room is the size less that. Each
// number from 1 to Last is back, or told by All, and not both; all up to the mark are back.
func (p *past) check(t *testing.T) {
	t.Helper()
	w := p.w
	if w.Mark() < p.mark || w.Mark() > w.Last() || w.Last() != p.last || w.Last()-w.Mark() > int64(p.size) {
		t.Errorf("the mark is %d, was %d; the last one is %d, was %d", w.Mark(), p.mark, w.Last(), p.last)
	}
	p.mark = w.Mark()
	if int64(w.Room()) != int64(p.size)-(p.last-p.mark) {
		t.Errorf("Room %d, with %d given out above the mark %d", w.Room(), p.last, p.mark)
	}
	told := map[int64]bool{}
	ahead := int64(0)
	for number, x := range w.All() {
		if number <= ahead || x != -number {
			t.Errorf("All tells %d with %d behind %d", number, x, ahead)
		}
		told[number], ahead = true, number
	}
	for number := int64(1); number <= p.last; number++ {
		if told[number] == p.back[number] || number <= p.mark && !p.back[number] {
			t.Errorf("the number %d is told: %t, is back: %t, the mark is %d", number, told[number], p.back[number], p.mark)
		}
	}
	if len(told) != w.Len() || p.mark < p.last && p.back[p.mark+1] {
		t.Errorf("%d are told, Len is %d; the mark is %d", len(told), w.Len(), p.mark)
	}
}

// P17.3: it holds at each step, whatever comes.
func TestWhatFollows(t *testing.T) {
	r := rand.New(rand.NewSource(173))
	for _, size := range []int{1, 2, 3, 4, 7, 31, 32, 33, 63, 64} {
		p := newPast(t, size)
		for range 1500 {
			if r.Intn(2) == 0 {
				p.give(t)
			} else {
				p.take(t, p.mark-2+int64(r.Intn(size+5)))
			}
			p.check(t)
			if t.Failed() {
				t.Fatalf("size %d", size)
			}
		}
	}
}

// P17.3: if what was given out comes back, whatever the order, the mark is Last: all orders of up to six numbers.
func TestAllBackInEachOrder(t *testing.T) {
	for many := 1; many <= 6; many++ {
		numbers := make([]int64, many)
		for i := range numbers {
			numbers[i] = int64(i + 1)
		}
		orders := 0
		eachOrder(numbers, 0, func(l []int64) {
			orders++
			for _, size := range []int{many, many + 1, 64} {
				allBack(t, newPast(t, size), l)
			}
		})
		if want := []int{1, 2, 6, 24, 120, 720}[many-1]; orders != want {
			t.Errorf("%d orders of %d", orders, many)
		}
	}
}

// eachOrder tells all orders of l whose first ones stay.
func eachOrder(l []int64, first int, do func(l []int64)) {
	if first == len(l) {
		do(l)
		return
	}
	for i := first; i < len(l); i++ {
		l[first], l[i] = l[i], l[first]
		eachOrder(l, first+1, do)
		l[first], l[i] = l[i], l[first]
	}
}

// allBack gives out as many numbers as l has, in two rounds, and takes them back in its order.
func allBack(t *testing.T, p *past, l []int64) {
	t.Helper()
	for range 2 {
		from := p.last
		for range l {
			p.give(t)
		}
		for _, number := range l {
			if p.w.Mark() == p.w.Last() {
				t.Errorf("the mark is the last one ahead of %d in %v", number, l)
			}
			p.take(t, from+number)
			p.check(t)
		}
		if p.w.Mark() != p.w.Last() || p.w.Last() != from+int64(len(l)) || p.w.Len() != 0 || p.w.Room() != p.size {
			t.Errorf("all are back: %v; order %v", see(p.w), l)
		}
	}
}

// P17.3: full windows in any order, at the greatest size too.
func TestFullWindowsBackInAnyOrder(t *testing.T) {
	r := rand.New(rand.NewSource(174))
	for size := 1; size <= 64; size++ {
		l := make([]int64, size)
		for i, number := range r.Perm(size) {
			l[i] = int64(number + 1)
		}
		allBack(t, newPast(t, size), l)
	}
}
