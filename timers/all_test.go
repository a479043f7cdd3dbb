package timers_test

import (
	"math"
	"slices"
	"testing"

	"wicket/api"
	"wicket/timers"
)

const midwayText = "-3@2 1@2 4@2 6@5 2@7"

// midway are timers of which some were moved, cleared and taken.
func midway(t *testing.T) *timers.Timers {
	t.Helper()
	x := given(t, "6@5 4@9 2@7 1@2 9@1 8@0 5@3 -3@2")
	wantTake(t, x, 1, "8@0 9@1")
	wantClear(t, x, 5, api.OK)
	wantSet(t, x, 4, 2, api.OK)
	wantTimers(t, "midway", x, midwayText)
	return x
}

// change is something that is done to timers midway, and what they are then.
type change struct {
	do   func(x *timers.Timers)
	text string
}

func changes() map[string]change {
	return map[string]change{
		"Set a new first":   {func(x *timers.Timers) { x.Set(9, 0) }, "9@0 -3@2 1@2 4@2 6@5 2@7"},
		"Set a new last":    {func(x *timers.Timers) { x.Set(-9, 8) }, "-3@2 1@2 4@2 6@5 2@7 -9@8"},
		"Set the first":     {func(x *timers.Timers) { x.Set(-3, 6) }, "1@2 4@2 6@5 -3@6 2@7"},
		"Set the last":      {func(x *timers.Timers) { x.Set(2, 1) }, "2@1 -3@2 1@2 4@2 6@5"},
		"Set one between":   {func(x *timers.Timers) { x.Set(4, 7) }, "-3@2 1@2 6@5 2@7 4@7"},
		"Clear the first":   {func(x *timers.Timers) { x.Clear(-3) }, "1@2 4@2 6@5 2@7"},
		"Clear the last":    {func(x *timers.Timers) { x.Clear(2) }, "-3@2 1@2 4@2 6@5"},
		"Clear one between": {func(x *timers.Timers) { x.Clear(4) }, "-3@2 1@2 6@5 2@7"},
		"Take some":         {func(x *timers.Timers) { x.Take(4) }, "6@5 2@7"},
		"Take all":          {func(x *timers.Timers) { x.Take(math.MaxInt64) }, ""},
		"all others":        {allOthers, "11@1 12@2 13@2 14@3 15@3"},
	}
}

func allOthers(x *timers.Timers) {
	x.Take(9)
	for i := range int64(5) {
		x.Set(15-i, 3-i/2)
	}
}

// wantAll: it tells these.
func wantAll(t *testing.T, what string, all func(func(api.Due) bool), want string) {
	t.Helper()
	if got := row(passOver(all, -1)); got != want {
		t.Errorf("%s: %.200q, want %.200q", what, got, want)
	}
}

// P20.3: how many there are.
func TestLen(t *testing.T) {
	x := timers.New()
	for many := range 9 {
		if x.Len() != many {
			t.Errorf("Len: %d, want %d", x.Len(), many)
		}
		wantSet(t, x, int64(many), 5, api.OK)
		wantSet(t, x, int64(many), 6, api.OK)
		wantSet(t, x, 99, -1, api.ErrArg)
	}
	x.Clear(4)
	x.Clear(4)
	if x.Len() != 8 {
		t.Errorf("Len: %d", x.Len())
	}
	x.Take(5)
	x.Next()
	if x.Len() != 8 {
		t.Errorf("Len: %d", x.Len())
	}
	x.Take(6)
	if x.Len() != 0 {
		t.Errorf("Len: %d", x.Len())
	}
}

// P20.3: it may be left at any time, and gone through as often as one likes; who leaves it is told nothing more.
func TestAllLeftAndGoneThroughAgain(t *testing.T) {
	x := midway(t)
	all := x.All()
	want := passOver(all, -1)
	for most := range len(want) + 2 {
		if got := passOver(all, most); !slices.Equal(got, want[:min(most, len(want))]) {
			t.Errorf("left behind %d: %v", most, got)
		}
		wantAll(t, "once more", all, midwayText)
	}
	for most := 1; most < len(want)+2; most++ {
		calls := 0
		all(func(api.Due) bool {
			calls++
			return calls < most
		})
		if calls != min(most, len(want)) {
			t.Errorf("told %d, left behind %d", calls, most)
		}
	}
	wantTimers(t, "gone over", x, midwayText)
}

// P20.3: as they are when going over begins: not as they were when All was called, and not as they come to be by the way.
func TestAllAsTheyAreWhenItBegins(t *testing.T) {
	for name, c := range changes() {
		x := midway(t)
		all := x.All()
		c.do(x)
		wantAll(t, name+" ahead of a pass", all, c.text)

		x = midway(t)
		all = x.All()
		wantAll(t, name+" ahead", all, midwayText)
		c.do(x)
		wantAll(t, name+" between passes", all, c.text)

		for at := range 5 {
			x = midway(t)
			all = x.All()
			var told []api.Due
			for d := range all {
				if len(told) == at {
					c.do(x)
				}
				told = append(told, d)
			}
			if row(told) != midwayText {
				t.Errorf("%s within a pass, behind %d: %q", name, at, row(told))
			}
			wantTimers(t, name+" behind a pass", x, c.text)
			wantAll(t, name+" behind a pass", all, c.text)
		}
	}
	x := timers.New()
	all := x.All()
	x.Set(1, 2)
	wantAll(t, "none when All was called", all, "1@2")
	x.Clear(1)
	wantAll(t, "none any more", all, "")
}

// P20.3: going over changes nothing; passes within passes know nothing of each other.
func TestAllWithinAll(t *testing.T) {
	x := midway(t)
	all, another := x.All(), x.All()
	var told []api.Due
	for d := range all {
		told = append(told, d)
		wantAll(t, "the same one within", all, midwayText)
		passOver(all, 1)
		wantAll(t, "another one within", another, midwayText)
		wantAll(t, "a new one within", x.All(), midwayText)
	}
	if row(told) != midwayText {
		t.Errorf("the pass outside tells %q", row(told))
	}
	wantTimers(t, "gone over", x, midwayText)
}

// P20.3: all that it tells can be moved, cleared and set again by the way.
func TestAllChangedByTheWay(t *testing.T) {
	x := midway(t)
	for d := range x.All() {
		wantAt(t, x, d.Name, d.At, api.OK)
		wantSet(t, x, d.Name, d.At+100, api.OK)
		wantSet(t, x, d.Name+1000, 0, api.OK)
	}
	wantTimers(t, "moved by the way", x, "997@0 1001@0 1002@0 1004@0 1006@0 -3@102 1@102 4@102 6@105 2@107")
	many := x.Len()
	for d := range x.All() {
		wantClear(t, x, d.Name, api.OK)
		many--
		if x.Len() != many {
			t.Errorf("Len: %d, want %d", x.Len(), many)
		}
	}
	wantTimers(t, "cleared by the way", x, "")
}

// P20.3: as many as may be are told in order.
func TestAllThatMayBe(t *testing.T) {
	x := filled(t)
	l := passOver(x.All(), -1)
	for i, d := range l {
		if d != (api.Due{Name: int64(api.MaxTimers - 1 - i), At: int64(i + 1)}) {
			t.Errorf("%v at the place %d", d, i)
		}
	}
	if len(l) != api.MaxTimers || x.Len() != api.MaxTimers {
		t.Errorf("%d are told, %d are there", len(l), x.Len())
	}
}

// P20.3: several at a time may go over the same ones, and look.
func TestAllAtATime(t *testing.T) {
	x := midway(t)
	told := make(chan bool)
	for range 4 {
		go func() {
			first, _ := x.Next()
			at, _ := x.At(6)
			told <- row(passOver(x.All(), -1)) == midwayText && row(passOver(x.Copy().All(), -1)) == midwayText && first.Name == -3 && at == 5 && x.Len() == 5
		}()
	}
	for range 4 {
		if !<-told {
			t.Error("one of them saw something else")
		}
	}
}
