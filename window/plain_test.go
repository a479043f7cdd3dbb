package window_test

import (
	"fmt"
	"math/rand"
	"slices"
	"strings"
	"testing"

	"wicket/api"
	"wicket/window"
)

// plain is a window as the chapter's words say it: all that was ever given out, and what of it is back.
type plain struct {
	size   int
	things []int
	back   []bool
}

func (p *plain) mark() int64 {
	mark := int64(0)
	for i := range p.back {
		if slices.Contains(p.back[:i+1], false) {
			break
		}
		mark = int64(i + 1)
	}
	return mark
}

func (p *plain) room() int {
	return p.size - (len(p.things) - int(p.mark()))
}

func (p *plain) give(x int) (int64, api.Errno) {
	next := int64(len(p.things)) + 1
	if next-p.mark() > int64(p.size) {
		return 0, api.ErrFull
	}
	p.things, p.back = append(p.things, x), append(p.back, false)
	return next, api.OK
}

func (p *plain) get(number int64) (int, api.Errno) {
	for i, x := range p.things {
		if int64(i)+1 == number && !p.back[i] {
			return x, api.OK
		}
	}
	return 0, api.ErrNone
}

func (p *plain) set(number int64, x int) api.Errno {
	_, e := p.get(number)
	if e == api.OK {
		p.things[number-1] = x
	}
	return e
}

func (p *plain) take(number int64) (int, api.Errno) {
	x, e := p.get(number)
	if e == api.OK {
		p.back[number-1] = true
	}
	return x, e
}

func (p *plain) see() seen {
	var words []string
	for i, x := range p.things {
		if !p.back[i] {
			words = append(words, fmt.Sprintf("%d=%d", i+1, x))
		}
	}
	return seen{strings.Join(words, " "), p.mark(), int64(len(p.things)), len(words), p.room()}
}

// both are a window and what the words say of it.
type both struct {
	w *window.Window[int]
	p plain
}

func newBoth(t *testing.T, size int) both {
	t.Helper()
	return both{made[int](t, size), plain{size: size}}
}

func (b *both) copy() both {
	return both{b.w.Copy(), plain{b.p.size, slices.Clone(b.p.things), slices.Clone(b.p.back)}}
}

// do does a step to both, and tells what each of them answers.
func (b *both) do(step string, number int64, x int) (got, want string) {
	switch step {
	case "Give":
		n, e := b.w.Give(x)
		m, f := b.p.give(x)
		return fmt.Sprint(n, e), fmt.Sprint(m, f)
	case "Set":
		return fmt.Sprint(b.w.Set(number, x)), fmt.Sprint(b.p.set(number, x))
	case "Get":
		y, e := b.w.Get(number)
		z, f := b.p.get(number)
		return fmt.Sprint(y, e), fmt.Sprint(z, f)
	}
	y, e := b.w.Back(number)
	z, f := b.p.take(number)
	return fmt.Sprint(y, e), fmt.Sprint(z, f)
}

func (b *both) check(t *testing.T, step string, number int64, x int) {
	t.Helper()
	was := b.p.see()
	if got, want := b.do(step, number, x); got != want {
		t.Fatalf("%s of %d, %d, of %v: %s, want %s", step, number, x, was, got, want)
	}
	if got, want := see(b.w), b.p.see(); got != want {
		t.Fatalf("%s of %d, %d, of %v: %v, want %v", step, number, x, was, got, want)
	}
}

// steps does all rows of so many steps to copies of b: each Give, and a Get, a Set and a Back of each number near those that
// are out.
func steps(t *testing.T, b both, many int) int {
	t.Helper()
	if many == 0 {
		return 1
	}
	all := 0
	next := func(step string, number int64) {
		c := b.copy()
		c.check(t, step, number, 10*many)
		all += steps(t, c, many-1)
	}
	next("Give", 0)
	for number := int64(-1); number <= int64(len(b.p.things))+1; number++ {
		next("Back", number)
	}
	for number := int64(0); number <= int64(len(b.p.things))+1; number++ {
		c := b.copy()
		c.check(t, "Get", number, 0)
		c.check(t, "Set", number, -many)
	}
	return all
}

// P17.1 to P17.3: each row of steps of small windows.
func TestEachStepOfSmallWindows(t *testing.T) {
	for size := 1; size <= 4; size++ {
		if rows := steps(t, newBoth(t, size), 6); rows < 1000 {
			t.Errorf("size %d: %d rows of steps", size, rows)
		}
	}
}

// P17.1 to P17.3: any steps, one behind the other, of a window and of copies that are made by the way.
func TestAnySteps(t *testing.T) {
	r := rand.New(rand.NewSource(171))
	names := []string{"Give", "Give", "Give", "Back", "Back", "Back", "Get", "Set"}
	for range 60 {
		all := []both{newBoth(t, 1+r.Intn(64))}
		for range 300 {
			b := &all[r.Intn(len(all))]
			near := int64(r.Intn(b.p.size+4)) - 2
			b.check(t, names[r.Intn(len(names))], b.w.Mark()+near, r.Intn(100))
			if len(all) < 4 && r.Intn(30) == 0 {
				all = append(all, b.copy())
			}
			for i := range all {
				if got, want := see(all[i].w), all[i].p.see(); got != want {
					t.Fatalf("%v, want %v", got, want)
				}
			}
		}
	}
}
