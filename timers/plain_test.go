package timers_test

import (
	"fmt"
	"math/rand"
	"slices"
	"testing"

	"wicket/api"
	"wicket/timers"
)

// plain are timers as the chapter's words say it: a list, in no order.
type plain []api.Due

func (p *plain) place(name int64) int {
	return slices.IndexFunc(*p, func(d api.Due) bool { return d.Name == name })
}

func (p *plain) set(name, at int64) api.Errno {
	if at < 0 {
		return api.ErrArg
	}
	if i := p.place(name); i >= 0 {
		(*p)[i].At = at
		return api.OK
	}
	if len(*p) == api.MaxTimers {
		return api.ErrFull
	}
	*p = append(*p, api.Due{Name: name, At: at})
	return api.OK
}

func (p *plain) clear(name int64) api.Errno {
	i := p.place(name)
	if i < 0 {
		return api.ErrNone
	}
	*p = slices.Delete(*p, i, i+1)
	return api.OK
}

func (p *plain) at(name int64) (int64, api.Errno) {
	i := p.place(name)
	if i < 0 {
		return 0, api.ErrNone
	}
	return (*p)[i].At, api.OK
}

// all finds the first of those that are left, again and again.
func (p *plain) all() []api.Due {
	var l []api.Due
	rest := slices.Clone(*p)
	for len(rest) > 0 {
		first := 0
		for i, d := range rest {
			if d.At < rest[first].At || d.At == rest[first].At && d.Name < rest[first].Name {
				first = i
			}
		}
		l = append(l, rest[first])
		rest = slices.Delete(rest, first, first+1)
	}
	return l
}

func (p *plain) next() (api.Due, api.Errno) {
	if len(*p) == 0 {
		return api.Due{}, api.ErrNone
	}
	return p.all()[0], api.OK
}

func (p *plain) take(now int64) []api.Due {
	var due []api.Due
	for _, d := range p.all() {
		if d.At <= now {
			due = append(due, d)
			p.clear(d.Name)
		}
	}
	return due
}

// both are timers and what the words say of them.
type both struct {
	x *timers.Timers
	p plain
}

func (b *both) copy() both {
	return both{b.x.Copy(), slices.Clone(b.p)}
}

// step is something to do: its name, and a name and a tick.
type step struct {
	what     string
	name, at int64
}

// do does a step to both, and tells what each of them answers.
func (b *both) do(s step) (got, want string) {
	switch s.what {
	case "Set":
		return fmt.Sprint(b.x.Set(s.name, s.at)), fmt.Sprint(b.p.set(s.name, s.at))
	case "Clear":
		return fmt.Sprint(b.x.Clear(s.name)), fmt.Sprint(b.p.clear(s.name))
	case "At":
		at, e := b.x.At(s.name)
		was, f := b.p.at(s.name)
		return fmt.Sprint(at, e), fmt.Sprint(was, f)
	case "Next":
		d, e := b.x.Next()
		c, f := b.p.next()
		return fmt.Sprint(d, e), fmt.Sprint(c, f)
	}
	return row(b.x.Take(s.at)), row(b.p.take(s.at))
}

func (b *both) check(t *testing.T, s step) string {
	t.Helper()
	was := row(b.p)
	got, want := b.do(s)
	if got != want {
		t.Fatalf("%v of %.300q: %.300q, want %.300q", s, was, got, want)
	}
	if told, there := row(passOver(b.x.All(), -1)), row(b.p.all()); told != there || b.x.Len() != len(b.p) {
		t.Fatalf("%v of %.300q: %.300q, want %.300q", s, was, told, there)
	}
	return got
}

// steps does all rows of so many steps to copies of b: each Set, Clear and Take of three names and three ticks.
func steps(t *testing.T, b both, many int) int {
	t.Helper()
	if many == 0 {
		return 1
	}
	all := 0
	next := func(s step) {
		c := b.copy()
		c.check(t, s)
		all += steps(t, c, many-1)
	}
	for name := range int64(3) {
		for at := range int64(3) {
			next(step{"Set", name, at})
		}
		next(step{"Clear", name, 0})
		b.check(t, step{"At", name, 0})
	}
	for at := range int64(2) {
		next(step{"Take", 0, at})
	}
	b.check(t, step{"Next", 0, 0})
	return all
}

// P20.1 to P20.3: each row of steps of few timers.
func TestEachRowOfSteps(t *testing.T) {
	if rows := steps(t, both{x: timers.New()}, 4); rows != 14*14*14*14 {
		t.Errorf("%d rows of steps", rows)
	}
}

// P20.1 to P20.3: each order in which some timers are set, with each one of them cleared or moved to each tick then.
func TestEachOrderOfSets(t *testing.T) {
	ticks := []int64{1, 1, 3, 3, 5, 7}
	orders := 0
	var set func(b both)
	set = func(b both) {
		if len(b.p) < len(ticks) {
			for name, at := range ticks {
				if b.p.place(int64(name)) < 0 {
					c := b.copy()
					c.check(t, step{"Set", int64(name), at})
					set(c)
				}
			}
			return
		}
		orders++
		for name := range ticks {
			for at := int64(-1); at < 9; at++ {
				c := b.copy()
				s := step{"Set", int64(name), at}
				if at < 0 {
					s.what = "Clear"
				}
				c.check(t, s)
				c.check(t, step{"Take", 0, 4})
				c.check(t, step{"Take", 0, 9})
			}
		}
	}
	set(both{x: timers.New()})
	if orders != 720 {
		t.Errorf("%d orders", orders)
	}
}

// P20.1 to P20.3: any steps, one behind the other, of timers and of copies that are made by the way.
func TestAnySteps(t *testing.T) {
	r := rand.New(rand.NewSource(201))
	names := []string{"Set", "Set", "Set", "Set", "Clear", "Take", "At", "Next"}
	seen := map[string]int{}
	most := 0
	for range 60 {
		all := []both{{x: timers.New()}}
		wide := int64(2 + r.Intn(60))
		for range 300 {
			b := &all[r.Intn(len(all))]
			s := step{names[r.Intn(len(names))], r.Int63n(wide) - wide/2, r.Int63n(wide) - 1}
			if s.what == "Take" {
				s.at /= 3
			}
			got := b.check(t, s)
			seen[s.what+" "+got[:min(len(got), 1)]]++
			most = max(most, b.x.Len())
			if len(all) < 4 && r.Intn(30) == 0 {
				all = append(all, b.copy())
			}
			for i := range all {
				if got, want := row(passOver(all[i].x.All(), -1)), row(all[i].p.all()); got != want {
					t.Fatalf("%q, want %q", got, want)
				}
			}
		}
	}
	if most < 30 || len(seen) < 9 {
		t.Errorf("at most %d timers at a time, answers %v", most, seen)
	}
}
