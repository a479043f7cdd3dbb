package net_test

import (
	"fmt"
	"math/rand"
	"slices"
	"testing"

	"wicket/api"
	"wicket/net"
)

// plain is a net as the chapter's words say it, of numbers, with a bound of its own.
type plain struct {
	way                    []int
	sent, taken, lost, out int
}

func (p *plain) send(l ...int) api.Errno {
	if len(p.way)+len(l) > 65536 {
		return api.ErrFull
	}
	p.way = append(slices.Clone(p.way), l...)
	p.sent += len(l)
	return api.OK
}

func (p *plain) at(i int) (int, api.Errno) {
	for place, x := range p.way {
		if place == i {
			return x, api.OK
		}
	}
	return 0, api.ErrNone
}

func (p *plain) remove(i int) {
	var left []int
	for place, x := range p.way {
		if place != i {
			left = append(left, x)
		}
	}
	p.way = left
}

func (p *plain) take(i int) (int, api.Errno) {
	x, e := p.at(i)
	if e == api.OK {
		p.remove(i)
		p.taken++
	}
	return x, e
}

func (p *plain) lose(i int) api.Errno {
	_, e := p.at(i)
	if e == api.OK {
		p.remove(i)
		p.lost++
	}
	return e
}

func (p *plain) twin(i int) api.Errno {
	x, e := p.at(i)
	if e != api.OK {
		return e
	}
	return p.send(x)
}

func (p *plain) keep(is func(int) bool) int {
	var left []int
	for _, x := range p.way {
		if is(x) {
			left = append(left, x)
		}
	}
	gone := len(p.way) - len(left)
	p.way = left
	p.out += gone
	return gone
}

// both are a net and what the words say of it.
type both struct {
	n *net.Net[int]
	p plain
}

// step does any step to both, and tells what each of them answers.
func (b *both) step(r *rand.Rand) (got, want string) {
	place := r.Intn(len(b.p.way)+3) - 1
	switch r.Intn(12) {
	case 0, 1, 2, 3:
		l := make([]int, r.Intn(4))
		for i := range l {
			l[i] = r.Intn(20)
		}
		return fmt.Sprint("Send", l, b.n.Send(l...)), fmt.Sprint("Send", l, b.p.send(l...))
	case 4, 5:
		return fmt.Sprint("Twin", place, b.n.Twin(place)), fmt.Sprint("Twin", place, b.p.twin(place))
	case 6, 7:
		return fmt.Sprint("Lose", place, b.n.Lose(place)), fmt.Sprint("Lose", place, b.p.lose(place))
	case 8:
		by := 2 + r.Intn(9)
		is := func(x int) bool { return x%by != 0 }
		return fmt.Sprint("Keep", by, b.n.Keep(is)), fmt.Sprint("Keep", by, b.p.keep(is))
	case 9:
		x, e := b.n.At(place)
		y, f := b.p.at(place)
		return fmt.Sprint("At", place, x, e), fmt.Sprint("At", place, y, f)
	}
	x, e := b.n.Take(place)
	y, f := b.p.take(place)
	return fmt.Sprint("Take", place, x, e), fmt.Sprint("Take", place, y, f)
}

func (b *both) want(t *testing.T) {
	t.Helper()
	wantNumbers(t, "the net", b.n, b.p.way, int64(b.p.sent))
}

func (b *both) copy() both {
	c := b.p
	c.way = slices.Clone(c.way)
	return both{b.n.Copy(), c}
}

// P16.1 to P16.3: any steps, one behind the other, of a net and of copies that are made by the way.
func TestAnySteps(t *testing.T) {
	r := rand.New(rand.NewSource(161))
	for range 200 {
		all := []both{{n: net.New[int]()}}
		for range 300 {
			b := &all[r.Intn(len(all))]
			if got, want := b.step(r); got != want {
				t.Fatalf("%s, want %s", got, want)
			}
			if len(all) < 5 && r.Intn(30) == 0 {
				all = append(all, b.copy())
			}
			for i := range all {
				all[i].want(t)
			}
			if t.Failed() {
				return
			}
		}
	}
}

// P16.1 to P16.3: the same about the bound.
func TestAnyStepsOfAFullNet(t *testing.T) {
	r := rand.New(rand.NewSource(162))
	b := both{n: net.New[int]()}
	full := 0
	b.n.Send(places(api.MaxWay - 3)...)
	b.p.send(places(api.MaxWay - 3)...)
	for range 1000 {
		got, want := "", ""
		for got == "" || got[0] == 'K' && len(b.p.way) > 0 {
			if got, want = b.step(r); got != want {
				t.Fatalf("%s, want %s", got, want)
			}
			if many := api.MaxWay - len(b.p.way); many > 9 {
				b.n.Send(make([]int, many)...)
				b.p.send(make([]int, many)...)
			}
		}
		if b.n.Len() == api.MaxWay {
			full++
		}
		if b.n.Len() != len(b.p.way) || b.n.Sent() != int64(b.p.sent) {
			t.Fatalf("Len %d, Sent %d", b.n.Len(), b.n.Sent())
		}
	}
	b.want(t)
	if full < 100 {
		t.Errorf("it was full %d times", full)
	}
}
