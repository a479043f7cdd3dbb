package table_test

import (
	"iter"
	"slices"
	"strings"
	"testing"

	"wicket/api"
	"wicket/table"
)

// gone is what going over tells.
func gone(over iter.Seq2[[]byte, []byte]) string {
	var l []api.Row
	for key, value := range over {
		l = append(l, api.Row{Key: key, Value: value})
	}
	return texts(l)
}

func wantGone(t *testing.T, what string, over iter.Seq2[[]byte, []byte], want string) {
	t.Helper()
	if over == nil {
		t.Fatalf("%s: there is nothing to go over", what)
	}
	if got := gone(over); got != want {
		t.Errorf("%s tells %.80q, not %.80q", what, got, want)
	}
}

// turned is rows, written the other way round.
func turned(text string) string {
	l := strings.Fields(text)
	slices.Reverse(l)
	return strings.Join(l, " ")
}

// P7.3: All tells all rows rising, Down falling, those below to.
func TestAllAndDown(t *testing.T) {
	for _, text := range []string{"", "a=1", "a=", "a=1 aa= b=3", texts(manyRows(300))} {
		x := made(t, text)
		wantGone(t, "All", x.All(), text)
		wantGone(t, "Down(nil)", x.Down(nil), turned(text))
		wantGone(t, "Down of no bytes", x.Down([]byte{}), turned(text))
	}
	x := made(t, "b=1 bb=2 d=3 d\x00=4 f=5")
	for _, c := range [][2]string{
		{"", "f=5 d\x00=4 d=3 bb=2 b=1"}, {"\x00", ""}, {"a", ""}, {"b", ""}, {"b\x00", "b=1"}, {"bb", "b=1"}, {"c", "bb=2 b=1"}, {"d", "bb=2 b=1"},
		{"d\x00", "d=3 bb=2 b=1"}, {"e", "d\x00=4 d=3 bb=2 b=1"}, {"f", "d\x00=4 d=3 bb=2 b=1"}, {"f\x00", "f=5 d\x00=4 d=3 bb=2 b=1"},
		{"\xff", "f=5 d\x00=4 d=3 bb=2 b=1"}, {strings.Repeat("b", 65), "bb=2 b=1"}, {strings.Repeat("\xff", 500), "f=5 d\x00=4 d=3 bb=2 b=1"},
	} {
		wantGone(t, "Down", x.Down([]byte(c[0])), c[1])
	}
}

// P7.3: both may be left at any time, and tell nothing more then; gone over again they tell all once more.
func TestLeftEarly(t *testing.T) {
	x := made(t, "a=1 b=2 c=3 d=4")
	for _, c := range []struct {
		name string
		over iter.Seq2[[]byte, []byte]
		want string
	}{{"All", x.All(), "a=1 b=2 c=3 d=4"}, {"Down", x.Down(nil), "d=4 c=3 b=2 a=1"}, {"Down(c)", x.Down([]byte("c")), "b=2 a=1"}} {
		l := strings.Fields(c.want)
		for n := 1; n <= len(l); n++ {
			var got []string
			c.over(func(key, value []byte) bool {
				got = append(got, string(key)+"="+string(value))
				return len(got) != n
			})
			if !slices.Equal(got, l[:n]) {
				t.Errorf("%s left behind %d rows tells %q", c.name, n, got)
			}
			wantGone(t, c.name+" again", c.over, c.want)
		}
	}
}

// P7.3: the rows are told as they are when going over begins, whatever is put and taken out by the way.
func TestGoneOverAsItBegan(t *testing.T) {
	const all = "b=1 d=2 f=3 h=4"
	changes := map[string]func(x *table.Table, key []byte){
		"takes out this row":         func(x *table.Table, key []byte) { x.Delete(key) },
		"takes out the first row":    func(x *table.Table, _ []byte) { x.Delete([]byte("b")) },
		"takes out the last row":     func(x *table.Table, _ []byte) { x.Delete([]byte("h")) },
		"takes out a middle row":     func(x *table.Table, _ []byte) { x.Delete([]byte("f")) },
		"takes out all rows":         func(x *table.Table, _ []byte) { empty(x) },
		"puts this row again":        func(x *table.Table, key []byte) { x.Put(key, []byte("9")) },
		"puts each row again":        func(x *table.Table, _ []byte) { putEach(x, "bdfh") },
		"puts a row at the front":    func(x *table.Table, _ []byte) { x.Put([]byte("a"), nil) },
		"puts a row at the end":      func(x *table.Table, _ []byte) { x.Put([]byte("z"), nil) },
		"puts rows between":          func(x *table.Table, _ []byte) { putEach(x, "ceg") },
		"puts a row behind this one": func(x *table.Table, key []byte) { x.Put(append(key, 0), nil) },
		"takes out and puts again":   func(x *table.Table, key []byte) { x.Delete(key); x.Put(key, []byte("8")) },
		"takes out all, puts others": func(x *table.Table, _ []byte) { empty(x); putEach(x, "adfz") },
		"takes out and puts the end": func(x *table.Table, _ []byte) { x.Delete([]byte("h")); x.Put([]byte("i"), nil) },
	}
	for name, change := range changes {
		for _, c := range []struct {
			way  string
			over func(*table.Table) iter.Seq2[[]byte, []byte]
			want string
		}{
			{"All", (*table.Table).All, all},
			{"Down", func(x *table.Table) iter.Seq2[[]byte, []byte] { return x.Down(nil) }, turned(all)},
			{"Down(h)", func(x *table.Table) iter.Seq2[[]byte, []byte] { return x.Down([]byte("h")) }, "f=3 d=2 b=1"},
		} {
			wantChangedBetween(t, c.way+", which "+name, all, c.want, c.over, change)
		}
	}
}

// wantChangedBetween goes over tables that are changed behind each row, and behind one of them alone.
func wantChangedBetween(t *testing.T, what, all, want string, over func(*table.Table) iter.Seq2[[]byte, []byte], change func(*table.Table, []byte)) {
	t.Helper()
	for at := -1; at < 4; at++ {
		x := made(t, all)
		place := 0
		var l []api.Row
		for key, value := range over(x) {
			l = append(l, api.Row{Key: []byte(string(key)), Value: value})
			if at < 0 || place == at {
				change(x, key)
			}
			place++
		}
		if got := texts(l); got != want {
			t.Errorf("%s, tells %q, not %q", what, got, want)
		}
		wantGone(t, "All behind it", x.All(), texts(seen(x)))
	}
}

func empty(x *table.Table) {
	for x.Len() > 0 {
		r, _ := x.At(x.Len() / 2)
		x.Delete(r.Key)
	}
}

func putEach(x *table.Table, keys string) {
	for _, key := range keys {
		x.Put([]byte(string(key)), []byte("9"))
	}
}

// P7.3: each time going over begins, it tells the rows as they are then, not as they were when All or Down was called.
func TestEachTimeAnew(t *testing.T) {
	x := made(t, "b=1 d=2")
	all, down, below := x.All(), x.Down(nil), x.Down([]byte("d"))
	want := func(text, under string) {
		t.Helper()
		wantGone(t, "All", all, text)
		wantGone(t, "Down", down, turned(text))
		wantGone(t, "Down(d)", below, under)
	}
	want("b=1 d=2", "b=1")
	x.Put([]byte("c"), []byte("3"))
	want("b=1 c=3 d=2", "c=3 b=1")
	x.Put([]byte("b"), []byte("4"))
	want("b=4 c=3 d=2", "c=3 b=4")
	x.Delete([]byte("d"))
	want("b=4 c=3", "c=3 b=4")
	x.Put([]byte("e"), nil)
	want("b=4 c=3 e=", "c=3 b=4")
	empty(x)
	want("", "")
	x.Put([]byte("d"), []byte("5"))
	want("d=5", "")
}

// P7.3: going over within going over: each tells the rows as they are when it began.
func TestOneWithinTheOther(t *testing.T) {
	x := made(t, "a=1 b=2 c=3")
	var got []string
	all := x.All()
	for key := range all {
		got = append(got, string(key)+": "+gone(all)+", "+gone(x.Down([]byte("c"))))
		x.Delete(key)
	}
	want := []string{"a: a=1 b=2 c=3, b=2 a=1", "b: b=2 c=3, b=2", "c: c=3, "}
	if !slices.Equal(got, want) {
		t.Errorf("tells %q", got)
	}
}

// P7.3: two that go over by turns do not hinder each other.
func TestTwoByTurns(t *testing.T) {
	x := made(t, "a=1 b=2 c=3")
	up, stopUp := iter.Pull2(x.All())
	defer stopUp()
	down, stopDown := iter.Pull2(x.Down(nil))
	defer stopDown()
	var got []string
	for range 3 {
		key, _, _ := up()
		x.Delete(key)
		other, _, _ := down()
		x.Put([]byte("z"), other)
		got = append(got, string(key), string(other))
	}
	// Down begins when a is gone already.
	if _, _, more := up(); more || !slices.Equal(got, []string{"a", "c", "b", "b", "c", ""}) {
		t.Errorf("by turns: %q, more %v", got, more)
	}
}
