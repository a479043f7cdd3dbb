package table_test

import (
	"fmt"
	"slices"
	"strings"
	"testing"

	"wicket/api"
	"wicket/table"
)

// rows reads rows as this test writes them: "a=1 b=" are the rows a 1 and b nothing.
func rows(text string) []api.Row {
	var l []api.Row
	for _, s := range strings.Fields(text) {
		key, value, _ := strings.Cut(s, "=")
		l = append(l, api.Row{Key: []byte(key), Value: []byte(value)})
	}
	return l
}

// texts writes rows as this test does.
func texts(l []api.Row) string {
	var b strings.Builder
	for i, r := range l {
		if i > 0 {
			b.WriteByte(' ')
		}
		fmt.Fprintf(&b, "%s=%s", r.Key, r.Value)
	}
	return b.String()
}

func made(t *testing.T, text string) *table.Table {
	t.Helper()
	return madeOf(t, rows(text)...)
}

func madeOf(t *testing.T, l ...api.Row) *table.Table {
	t.Helper()
	x, e := table.New(l...)
	if e != api.OK || x == nil {
		t.Fatalf("New(%.60q): %v, %v", texts(l), x != nil, e)
	}
	return x
}

// seen is all rows of a table, told by Len and At alone.
func seen(x *table.Table) []api.Row {
	var l []api.Row
	for place := range x.Len() {
		r, _ := x.At(place)
		l = append(l, r)
	}
	return l
}

func wantRows(t *testing.T, what string, x *table.Table, text string) {
	t.Helper()
	if got := texts(seen(x)); got != text {
		t.Errorf("%s: the rows are %.80q, not %.80q", what, got, text)
	}
}

func wantPut(t *testing.T, x *table.Table, key, value string, want bool) {
	t.Helper()
	if was, e := x.Put([]byte(key), []byte(value)); was != want || e != api.OK {
		t.Errorf("Put(%.40q, %.40q): %v, %v", key, value, was, e)
	}
}

func wantDelete(t *testing.T, x *table.Table, key string, want bool) {
	t.Helper()
	if was, e := x.Delete([]byte(key)); was != want || e != api.OK {
		t.Errorf("Delete(%.40q): %v, %v", key, was, e)
	}
}

func wantGet(t *testing.T, x *table.Table, key, want string) {
	t.Helper()
	if v, e := x.Get([]byte(key)); string(v) != want || e != api.OK {
		t.Errorf("Get(%.40q): %.40q, %v, not %.40q", key, v, e, want)
	}
}

func wantNone(t *testing.T, x *table.Table, key string) {
	t.Helper()
	if v, e := x.Get([]byte(key)); v != nil || e != api.ErrNone {
		t.Errorf("Get(%.40q): %.40q, %v", key, v, e)
	}
}

// The chapter's section 'Examples', row by row.
func TestExamples(t *testing.T) {
	if x, e := table.New(rows("b=1 a=2")...); x != nil || e != api.ErrArg {
		t.Errorf("New of b, a: %v, %v", x != nil, e)
	}
	x := made(t, "a=1 b=2")
	if x.Len() != 2 || x.Size() != 4 {
		t.Errorf("Len, Size: %d, %d", x.Len(), x.Size())
	}

	wantPut(t, x, "a", "33", true)
	wantPut(t, x, "c", "", false)
	wantGet(t, x, "a", "33")
	wantNone(t, x, "x")
	wantDelete(t, x, "b", true)
	wantDelete(t, x, "b", false)

	if b, z := x.Rank([]byte("b")), x.Rank([]byte("z")); b != 1 || z != 2 {
		t.Errorf("Rank of b, of z: %d, %d", b, z)
	}
	wantAt(t, x, 1, "c=")
	wantNotAt(t, x, 2)
	wantScan(t, x, "", "c", 9, "a=33")
	wantScan(t, x, "b", "", 9, "c=")
}

// P7.1: a table with these rows: none, one, many; their keys by bytes, and a beginning ahead of what it is a beginning of.
func TestNewHasTheRows(t *testing.T) {
	for _, text := range []string{"", "a=1", "a=", "a=1 b=1 c=1", "\x00=x \x00\x00=y a=1 a\x00= aa=3 ab=2 b=1 \x7f=4 \x80=5 \xff=6 \xff\x00=8 \xff\xff=7"} {
		wantRows(t, "New", made(t, text), text)
	}
	if x, e := table.New([]api.Row{}...); x.Len() != 0 || x == nil || e != api.OK {
		t.Errorf("New of an empty list: %v, %v", x != nil, e)
	}
	l := manyRows(4096)
	wantRows(t, "New of many rows", madeOf(t, l...), texts(l))
}

// manyRows are n rows with rising keys of several lengths, some of them beginnings of others.
func manyRows(n int) []api.Row {
	var keys []string
	for i := range n {
		keys = append(keys, strings.TrimRight(fmt.Sprintf("%05d", i*7919%n), "0")+"k")
	}
	slices.Sort(keys)
	var l []api.Row
	for i, key := range slices.Compact(keys) {
		l = append(l, api.Row{Key: []byte(key), Value: []byte(fmt.Sprint(i % 17))})
	}
	return l
}

// P7.1: rows that do not rise are refused, wherever that is: the same key twice, a greater one ahead.
func TestNewRefusesRowsThatDoNotRise(t *testing.T) {
	for _, text := range []string{
		"b=1 a=2", "a=1 a=1", "a=1 a=2", "a=1 b=2 b=3", "a=1 a=2 b=3", "a=1 c=2 b=3", "b=1 a=2 c=3", "c=1 b=2 a=3",
		"a=1 b=2 c=3 a=4", "aa=1 a=2", "a\x00=1 a=2", "b=1 aa=2", "\x80=1 \x7f=2", "\xff=1 \x00=2",
	} {
		if x, e := table.New(rows(text)...); x != nil || e != api.ErrArg {
			t.Errorf("New(%q): %v, %v", text, x != nil, e)
		}
	}
	l := manyRows(1000)
	for _, at := range []int{1, 500, len(l) - 1} {
		twice := slices.Insert(slices.Clone(l), at, l[at-1])
		if x, e := table.New(twice...); x != nil || e != api.ErrArg {
			t.Errorf("New with the row %d twice: %v, %v", at-1, x != nil, e)
		}
		turned := slices.Clone(l)
		turned[at-1], turned[at] = l[at], l[at-1]
		if x, e := table.New(turned...); x != nil || e != api.ErrArg {
			t.Errorf("New with the rows %d and %d turned: %v, %v", at-1, at, x != nil, e)
		}
	}
}

// P7.1: keys of 1 to 64 bytes and values of 0 to 256, others are refused, in the first row, in the last one, between others.
func TestNewByLengths(t *testing.T) {
	for _, n := range []int{0, 1, 2, 63, 64, 65, 66, 255, 256, 257, 320, 65537} {
		key, value := []byte(strings.Repeat("m", n)), []byte(strings.Repeat("v", n))
		for _, around := range [][2]string{{"", ""}, {"a=1", ""}, {"", "z=1"}, {"a=1", "z=1"}} {
			with := func(r api.Row) bool {
				l := append(append(rows(around[0]), r), rows(around[1])...)
				x, e := table.New(l...)
				if (x != nil) != (e == api.OK) || e != api.OK && e != api.ErrArg {
					t.Errorf("New with a key of %d bytes and a value of %d: %v, %v", len(r.Key), len(r.Value), x != nil, e)
				}
				if x != nil {
					wantRows(t, "New", x, texts(l))
				}
				return x != nil
			}
			if got, want := with(api.Row{Key: key, Value: []byte("1")}), 1 <= n && n <= 64; got != want {
				t.Errorf("New with a key of %d bytes between %q: %v", n, around, got)
			}
			if got, want := with(api.Row{Key: []byte("m"), Value: value}), n <= 256; got != want {
				t.Errorf("New with a value of %d bytes between %q: %v", n, around, got)
			}
		}
	}
	if x, e := table.New(api.Row{}); x != nil || e != api.ErrArg {
		t.Errorf("New of a row without a key: %v, %v", x != nil, e)
	}
}

// P7.1: the row of a key has the value that was put last, wherever it stands: at the front, in the middle, at the end, once more.
func TestPut(t *testing.T) {
	x := made(t, "")
	for _, step := range []struct {
		key, value string
		was        bool
		want       string
	}{
		{"m", "1", false, "m=1"},
		{"c", "2", false, "c=2 m=1"},
		{"x", "3", false, "c=2 m=1 x=3"},
		{"g", "4", false, "c=2 g=4 m=1 x=3"},
		{"c", "5", true, "c=5 g=4 m=1 x=3"},
		{"g", "", true, "c=5 g= m=1 x=3"},
		{"x", "66", true, "c=5 g= m=1 x=66"},
		{"x", "66", true, "c=5 g= m=1 x=66"},
		{"g", "7", true, "c=5 g=7 m=1 x=66"},
		{"cc", "8", false, "c=5 cc=8 g=7 m=1 x=66"},
		{"c\x00", "9", false, "c=5 c\x00=9 cc=8 g=7 m=1 x=66"},
		{"\x00", "", false, "\x00= c=5 c\x00=9 cc=8 g=7 m=1 x=66"},
		{"\xff\xff", "z", false, "\x00= c=5 c\x00=9 cc=8 g=7 m=1 x=66 \xff\xff=z"},
	} {
		wantPut(t, x, step.key, step.value, step.was)
		wantRows(t, "behind Put", x, step.want)
		wantGet(t, x, step.key, step.value)
	}
}

// P7.1: Delete takes out a row, wherever it stands, once; a row that was taken out may be put again.
func TestDelete(t *testing.T) {
	const all = "a=1 b=2 c=3 d=4"
	for _, step := range [][2]string{{"a", "b=2 c=3 d=4"}, {"b", "a=1 c=3 d=4"}, {"c", "a=1 b=2 d=4"}, {"d", "a=1 b=2 c=3"}} {
		x := made(t, all)
		wantDelete(t, x, step[0], true)
		wantRows(t, "behind Delete", x, step[1])
		wantNone(t, x, step[0])
		wantDelete(t, x, step[0], false)
		wantRows(t, "behind a second Delete", x, step[1])
	}
	x := made(t, all)
	for _, key := range []string{"0", "aa", "a\x00", "bb", "e", "\xff", strings.Repeat("a", 64)} {
		wantDelete(t, x, key, false)
		wantRows(t, "behind Delete of no row", x, all)
	}
	for _, key := range []string{"b", "d", "a", "c"} {
		wantDelete(t, x, key, true)
	}
	wantRows(t, "behind all Deletes", x, "")
	wantDelete(t, x, "a", false)
	wantPut(t, x, "b", "9", false)
	wantRows(t, "put again", x, "b=9")
}

// P7.1: Get finds each row of many, and nothing between them; so do Put and Delete.
func TestOneOfMany(t *testing.T) {
	l := manyRows(1000)
	x := madeOf(t, l...)
	for _, r := range l {
		key := string(r.Key)
		wantGet(t, x, key, string(r.Value))
		for _, other := range []string{key + "\x00", key + "k", key[:len(key)-1] + "j"} {
			wantNone(t, x, other)
			wantDelete(t, x, other, false)
		}
	}
	for i, r := range l {
		if i%3 == 0 {
			wantDelete(t, x, string(r.Key), true)
			wantNone(t, x, string(r.Key))
		} else {
			wantPut(t, x, string(r.Key), "new", true)
			wantGet(t, x, string(r.Key), "new")
		}
	}
}

// P7.1: keys and values that may not be are refused by each function, and change nothing; at the bound they go.
func TestKeysAndValuesThatMayNotBe(t *testing.T) {
	x := made(t, "a=1 b=2")
	for _, n := range []int{0, 65, 66, 128, 256, 257, 65536 + 1} {
		key := []byte(strings.Repeat("a", n))
		if was, e := x.Put(key, []byte("3")); was || e != api.ErrArg {
			t.Errorf("Put of a key of %d bytes: %v, %v", n, was, e)
		}
		if v, e := x.Get(key); v != nil || e != api.ErrArg {
			t.Errorf("Get of a key of %d bytes: %.40q, %v", n, v, e)
		}
		if was, e := x.Delete(key); was || e != api.ErrArg {
			t.Errorf("Delete of a key of %d bytes: %v, %v", n, was, e)
		}
	}
	for _, n := range []int{257, 258, 320, 512, 65536} {
		for _, key := range []string{"a", "c", ""} {
			if was, e := x.Put([]byte(key), make([]byte, n)); was || e != api.ErrArg {
				t.Errorf("Put of a value of %d bytes: %v, %v", n, was, e)
			}
		}
	}
	wantRows(t, "behind all that was refused", x, "a=1 b=2")

	key, value := strings.Repeat("\xff", 64), strings.Repeat("\x00", 256)
	wantPut(t, x, key, value, false)
	wantGet(t, x, key, value)
	wantPut(t, x, key, value[:255], true)
	wantGet(t, x, key, value[:255])
	wantDelete(t, x, key, true)
	wantRows(t, "behind keys and values at the bound", x, "a=1 b=2")
}

// P7.1: nil and no bytes are the same: a key that may not be, a value that may.
func TestNilIsNoBytes(t *testing.T) {
	for _, nothing := range [][]byte{nil, {}} {
		x := made(t, "a=1")
		if was, e := x.Put(nothing, nil); was || e != api.ErrArg {
			t.Errorf("Put of no key: %v, %v", was, e)
		}
		if v, e := x.Get(nothing); v != nil || e != api.ErrArg {
			t.Errorf("Get of no key: %q, %v", v, e)
		}
		if was, e := x.Delete(nothing); was || e != api.ErrArg {
			t.Errorf("Delete of no key: %v, %v", was, e)
		}
		if was, e := x.Put([]byte("a"), nothing); !was || e != api.OK {
			t.Errorf("Put of no value: %v, %v", was, e)
		}
		wantGet(t, x, "a", "")
		if y := madeOf(t, api.Row{Key: []byte("a"), Value: nothing}); !y.Same(made(t, "a=")) || !x.Same(y) {
			t.Error("rows without a value are not the same")
		}
	}
}
