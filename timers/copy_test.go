package timers_test

import (
	"testing"

	"wicket/api"
	"wicket/timers"
)

// P20.3: a copy has the same timers, at each step of a story, and copies of it have them.
func TestCopyHasTheSame(t *testing.T) {
	x := timers.New()
	for _, step := range []func(){
		func() {}, func() { x.Set(5, 3) }, func() { x.Set(4, 3) }, func() { x.Set(9, 1) }, func() { x.Set(5, 0) }, func() { x.Take(0) },
		func() { x.Set(6, 7) }, func() { x.Clear(9) }, func() { x.Set(4, 8) }, func() { x.Take(99) }, func() { x.Set(9, 9) },
	} {
		step()
		c := x.Copy()
		if c == nil || c == x {
			t.Fatal("Copy is none, or the same")
		}
		want := row(passOver(x.All(), -1))
		wantTimers(t, "Copy", c, want)
		wantTimers(t, "Copy of a Copy", c.Copy(), want)
		for name := range int64(12) {
			at, e := x.At(name)
			wantAt(t, c, name, at, e)
		}
		wantTake(t, c, 1<<40, want)
	}
}

// P20.3: both go on apart, whatever is done to whichever of them first.
func TestCopyGoesOnApart(t *testing.T) {
	for name, one := range changes() {
		x := midway(t)
		c := x.Copy()
		one.do(c)
		wantTimers(t, name+" of the copy", c, one.text)
		wantTimers(t, name+" of the copy, the others", x, midwayText)

		c = x.Copy()
		one.do(x)
		wantTimers(t, name+" of the others", x, one.text)
		wantTimers(t, name+" of the others, the copy", c, midwayText)
		one.do(c)
		wantTimers(t, name+" of both", c, one.text)
		for other, next := range changes() {
			x, c := midway(t), midway(t).Copy()
			one.do(x)
			next.do(x)
			one.do(c)
			d := c.Copy()
			next.do(d)
			wantTimers(t, name+" and "+other, d, row(passOver(x.All(), -1)))
			wantTimers(t, name+" without "+other, c, one.text)
		}
	}
}

// P20.3: copies that are made while timers are gone over have what these are at the time.
func TestCopyByTheWay(t *testing.T) {
	x := given(t, "1@1 2@2 3@3")
	var copies []*timers.Timers
	for d := range x.All() {
		copies = append(copies, x.Copy())
		x.Clear(d.Name)
	}
	for i, want := range []string{"1@1 2@2 3@3", "2@2 3@3", "3@3"} {
		wantTimers(t, "a copy by the way", copies[i], want)
	}
	wantTimers(t, "cleared by the way", x, "")
}

// P20.3: a copy of as many as may be is full; it gives room apart.
func TestCopyOfAFullOne(t *testing.T) {
	x := filled(t)
	c := x.Copy()
	wantSet(t, c, -1, 0, api.ErrFull)
	wantClear(t, c, 0, api.OK)
	wantSet(t, c, -1, 0, api.OK)
	wantSet(t, x, -1, 0, api.ErrFull)
	wantAt(t, x, 0, api.MaxTimers, api.OK)
}
