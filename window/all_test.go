package window_test

import (
	"iter"
	"slices"
	"strconv"
	"strings"
	"testing"

	"wicket/api"
	"wicket/window"
)

// numbered is what All tells at a time.
type numbered struct {
	number int64
	word   string
}

// passOver tells at most so many; all of them, if most is below 0.
func passOver(all iter.Seq2[int64, string], most int) []numbered {
	var l []numbered
	if most == 0 {
		return l
	}
	for number, word := range all {
		l = append(l, numbered{number, word})
		if len(l) == most {
			break
		}
	}
	return l
}

// wantAll: it tells just these, written as out writes them.
func wantAll(t *testing.T, what string, all iter.Seq2[int64, string], text string) {
	t.Helper()
	var words []string
	for _, one := range passOver(all, -1) {
		words = append(words, strconv.FormatInt(one.number, 10)+"="+one.word)
	}
	if got := strings.Join(words, " "); got != text {
		t.Errorf("%s: %q, want %q", what, got, text)
	}
}

// change is what may be done to the window that midway makes, and what is out behind it.
type change struct {
	do   func(w *window.Window[string])
	text string
}

const midwayText = "2=b 4=d 5=e"

// midway is a window with three out, one back between them, and room for one.
func midway(t *testing.T) *window.Window[string] {
	t.Helper()
	w := given(t, 5, "a b c d e", 3, 1)
	wantOut(t, "midway", w, midwayText, 1, 5, 1)
	return w
}

func changes() map[string]change {
	return map[string]change{
		"Give":          {func(w *window.Window[string]) { w.Give("x") }, "2=b 4=d 5=e 6=x"},
		"Set":           {func(w *window.Window[string]) { w.Set(4, "x") }, "2=b 4=x 5=e"},
		"Set all":       {func(w *window.Window[string]) { w.Set(2, "x"); w.Set(4, "y"); w.Set(5, "z") }, "2=x 4=y 5=z"},
		"Back first":    {func(w *window.Window[string]) { w.Back(2) }, "4=d 5=e"},
		"Back between":  {func(w *window.Window[string]) { w.Back(4) }, "2=b 5=e"},
		"Back last":     {func(w *window.Window[string]) { w.Back(5) }, "2=b 4=d"},
		"Back all":      {func(w *window.Window[string]) { w.Back(5); w.Back(2); w.Back(4) }, ""},
		"another round": {anotherRound, "6=f 7=g 8=h 9=i 10=j"},
	}
}

// anotherRound takes all back and gives out as many as may be, so that each place has another thing.
func anotherRound(w *window.Window[string]) {
	for number := range int64(6) {
		w.Back(number)
	}
	for _, word := range []string{"f", "g", "h", "i", "j"} {
		w.Give(word)
	}
}

// P17.2: the numbers that are out, rising, each with its thing, wherever in the ring they begin.
func TestAll(t *testing.T) {
	none := made[string](t, 3)
	if none.All() == nil {
		t.Fatal("All is nil")
	}
	wantAll(t, "none", none.All(), "")
	wantAll(t, "one", given(t, 3, "a").All(), "1=a")
	wantAll(t, "three", given(t, 3, "c a b").All(), "1=c 2=a 3=b")
	wantAll(t, "some are back", given(t, 6, "a b c d e f", 5, 2).All(), "1=a 3=c 4=d 6=f")
	wantAll(t, "all are back", given(t, 3, "a b c", 3, 1, 2).All(), "")
	for size := 1; size <= 64; size++ {
		w := made[string](t, size)
		for number := int64(1); number <= 3*int64(size); number++ {
			wantGive(t, w, "x", number)
			if number >= int64(size) {
				wantRising(t, w, number-int64(size)+1, size)
				wantBack(t, w, number-int64(size)+1, "x")
			}
		}
	}
}

// wantRising: all numbers from one on are told, so many.
func wantRising(t *testing.T, w *window.Window[string], from int64, many int) {
	t.Helper()
	l := passOver(w.All(), -1)
	if len(l) != many {
		t.Errorf("%d are told, want %d", len(l), many)
	}
	for i, one := range l {
		if one.number != from+int64(i) {
			t.Errorf("the number %d at the place %d behind %d", one.number, i, from)
		}
	}
}

// P17.2: it may be left at any time, and gone through as often as one likes; what leaves it is told nothing more.
func TestAllLeftAndGoneThroughAgain(t *testing.T) {
	w := midway(t)
	all := w.All()
	want := passOver(all, -1)
	for most := range len(want) + 1 {
		if got := passOver(all, most); !slices.Equal(got, want[:most]) {
			t.Errorf("left behind %d: %v", most, got)
		}
		wantAll(t, "once more", all, midwayText)
	}
	for most := 1; most < len(want)+2; most++ {
		calls := 0
		all(func(int64, string) bool {
			calls++
			return calls < most
		})
		if calls != min(most, len(want)) {
			t.Errorf("told %d, left behind %d", calls, most)
		}
	}
	wantOut(t, "gone over", w, midwayText, 1, 5, 1)
}

// P17.2: as they are when going over begins: not as they were when All was called, and not as they come to be by the way.
func TestAllAsTheyAreWhenItBegins(t *testing.T) {
	for name, c := range changes() {
		w := midway(t)
		all := w.All()
		c.do(w)
		wantAll(t, name+" ahead of a pass", all, c.text)

		w = midway(t)
		all = w.All()
		wantAll(t, name+" ahead", all, midwayText)
		c.do(w)
		wantAll(t, name+" between passes", all, c.text)

		w = midway(t)
		all = w.All()
		told := ""
		for _, word := range all {
			if told == "" {
				c.do(w)
			}
			told += word
		}
		if told != "bde" {
			t.Errorf("%s within a pass: %q", name, told)
		}
		wantAll(t, name+" behind a pass", all, c.text)
	}
	w := made[string](t, 1)
	all := w.All()
	w.Give("a")
	wantAll(t, "none when All was called", all, "1=a")
	w.Back(1)
	wantAll(t, "none any more", all, "")
}

// P17.2: going over changes nothing; passes within passes know nothing of each other.
func TestAllWithinAll(t *testing.T) {
	w := midway(t)
	all, another := w.All(), w.All()
	told := ""
	for _, word := range all {
		told += word
		wantAll(t, "the same one within", all, midwayText)
		passOver(all, 1)
		wantAll(t, "another one within", another, midwayText)
		wantAll(t, "a new one within", w.All(), midwayText)
	}
	if told != "bde" {
		t.Errorf("the pass outside tells %q", told)
	}
	wantOut(t, "gone over", w, midwayText, 1, 5, 1)
}

// P17.2: all that it tells can be taken back by the way, given another thing, and looked at.
func TestAllTakenBackByTheWay(t *testing.T) {
	w := given(t, 4, "a b c d", 2)
	many := w.Len()
	for number, word := range w.All() {
		wantGet(t, w, number, word)
		wantSet(t, w, number, word+"!")
		wantBack(t, w, number, word+"!")
		many--
		if w.Len() != many {
			t.Errorf("Len: %d, want %d", w.Len(), many)
		}
	}
	wantOut(t, "all back", w, "", 4, 4, 4)
	for _, word := range []string{"e", "f"} {
		w.Give(word)
	}
	gives := 0
	for range w.All() {
		if _, e := w.Give("x"); e == api.OK {
			gives++
		}
	}
	if gives != 2 {
		t.Errorf("%d are given out by the way", gives)
	}
	wantOut(t, "given by the way", w, "5=e 6=f 7=x 8=x", 4, 8, 0)
}

// P17.2: several at a time may go over one, and look.
func TestAllAtATime(t *testing.T) {
	w := midway(t)
	was := see(w)
	told := make(chan bool)
	for range 4 {
		go func() { told <- see(w) == was && see(w.Copy()) == was }()
	}
	for range 4 {
		if !<-told {
			t.Error("one of them saw something else")
		}
	}
}
