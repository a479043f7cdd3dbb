package table_test

import (
	"math"
	"strings"
	"testing"

	"wicket/api"
	"wicket/table"
)

func wantAt(t *testing.T, x *table.Table, place int, want string) {
	t.Helper()
	if r, e := x.At(place); texts([]api.Row{r}) != want || e != api.OK {
		t.Errorf("At(%d): %.40q, %v, not %.40q", place, texts([]api.Row{r}), e, want)
	}
}

func wantNotAt(t *testing.T, x *table.Table, place int) {
	t.Helper()
	if r, e := x.At(place); r.Key != nil || r.Value != nil || e != api.ErrArg {
		t.Errorf("At(%d): %.40q, %v", place, texts([]api.Row{r}), e)
	}
}

func wantScan(t *testing.T, x *table.Table, from, to string, most int, want string) {
	t.Helper()
	if got := texts(x.Scan([]byte(from), []byte(to), most)); got != want {
		t.Errorf("Scan(%.40q, %.40q, %d): %.80q, not %.80q", from, to, most, got, want)
	}
}

func wantRank(t *testing.T, x *table.Table, key string, want int) {
	t.Helper()
	if got := x.Rank([]byte(key)); got != want {
		t.Errorf("Rank(%.40q): %d, not %d", key, got, want)
	}
}

// P7.2: Len counts rows, Size the bytes of all keys and values.
func TestLenAndSize(t *testing.T) {
	for _, c := range []struct {
		text      string
		len, size int
	}{
		{"", 0, 0}, {"a=", 1, 1}, {"a=1", 1, 2}, {"abc=1", 1, 4}, {"a=123", 1, 4}, {"a=1 b=", 2, 3}, {"a=1 aa=22 aaa=333", 3, 12},
		{strings.Repeat("k", 64) + "=" + strings.Repeat("v", 256), 1, 320},
	} {
		if x := made(t, c.text); x.Len() != c.len || x.Size() != c.size {
			t.Errorf("Len, Size of %.40q: %d, %d, not %d, %d", c.text, x.Len(), x.Size(), c.len, c.size)
		}
	}
}

// P7.2: Len and Size behind each change, and behind what is refused.
func TestLenAndSizeBehindChanges(t *testing.T) {
	x := made(t, "")
	want := func(len, size int) {
		t.Helper()
		if x.Len() != len || x.Size() != size {
			t.Errorf("Len, Size: %d, %d, not %d, %d", x.Len(), x.Size(), len, size)
		}
	}
	x.Put([]byte("bb"), []byte("123"))
	want(1, 5)
	x.Put([]byte("bb"), []byte("1"))
	want(1, 3)
	x.Put([]byte("bb"), []byte("12345"))
	want(1, 7)
	x.Put([]byte("a"), nil)
	want(2, 8)
	x.Put(nil, []byte("1"))
	x.Put([]byte("c"), make([]byte, 257))
	x.Put([]byte("bb"), make([]byte, 257))
	want(2, 8)
	x.Put([]byte("c"), make([]byte, 256))
	want(3, 265)
	x.Delete([]byte("x"))
	want(3, 265)
	x.Delete([]byte("bb"))
	want(2, 258)
	x.Delete([]byte("c"))
	want(1, 1)
	x.Delete([]byte("a"))
	want(0, 0)
}

// P7.2: Rank of keys that are there, that are not, and of bytes that are no key.
func TestRank(t *testing.T) {
	x := made(t, "b= bb= d= d\x00= f=")
	long := strings.Repeat("b", 64)
	for _, c := range []struct {
		key  string
		want int
	}{
		{"", 0}, {"\x00", 0}, {"a", 0}, {"b", 0}, {"b\x00", 1}, {"ba\xff", 1}, {"bb", 1}, {"bb\x00", 2}, {"c", 2}, {"d", 2},
		{"d\x00", 3}, {"d\x00\x00", 4}, {"d\x01", 4}, {"e", 4}, {"f", 4}, {"f\x00", 5}, {"z", 5}, {"\xff", 5},
		{long, 2}, {long + "b", 2}, {strings.Repeat("a", 1000), 0}, {strings.Repeat("\xff", 1000), 5}, {strings.Repeat("d", 65), 4},
	} {
		wantRank(t, x, c.key, c.want)
	}
	for _, key := range []string{"", "a", "\xff\xff"} {
		wantRank(t, made(t, ""), key, 0)
	}
	if x.Rank(nil) != 0 {
		t.Errorf("Rank(nil): %d", x.Rank(nil))
	}

	one := made(t, strings.Repeat("k", 64)+"=")
	wantRank(t, one, strings.Repeat("k", 63), 0)
	wantRank(t, one, strings.Repeat("k", 64), 0)
	wantRank(t, one, strings.Repeat("k", 65), 1)
}

// P7.2: Rank counts, in tables of any few rows.
func TestRankByHalves(t *testing.T) {
	for n := range 40 {
		var l []api.Row
		for i := range n {
			l = append(l, api.Row{Key: []byte{byte(2*i + 1)}})
		}
		x := madeOf(t, l...)
		for b := range 2*n + 2 {
			wantRank(t, x, string([]byte{byte(b)}), b/2)
		}
	}
}

// P7.2: the places are those from 0 to Len less 1.
func TestAt(t *testing.T) {
	huge := []int{math.MinInt, math.MinInt64 + 1, -1 << 32, -2, -1, 1 << 32, math.MaxInt - 1, math.MaxInt}
	for _, text := range []string{"", "a=1", "a=1 b= c=33"} {
		x := made(t, text)
		l := strings.Fields(text)
		for place, r := range l {
			wantAt(t, x, place, r)
		}
		for _, place := range append(huge, len(l), len(l)+1) {
			wantNotAt(t, x, place)
		}
	}
	x := made(t, "a=1 b= c=33")
	x.Delete([]byte("a"))
	wantAt(t, x, 0, "b=")
	wantAt(t, x, 1, "c=33")
	wantNotAt(t, x, 2)
}

// P7.2: how many rows Scan tells: most, as far as there are so many; below 0 none.
func TestScanByMost(t *testing.T) {
	x := made(t, "a=1 b=2 c=3 d=4 e=5")
	for _, c := range []struct {
		most          int
		all, from, to string
	}{
		{math.MinInt, "", "", ""}, {-2, "", "", ""}, {-1, "", "", ""}, {0, "", "", ""},
		{1, "a=1", "b=2", "a=1"},
		{2, "a=1 b=2", "b=2 c=3", "a=1 b=2"},
		{3, "a=1 b=2 c=3", "b=2 c=3 d=4", "a=1 b=2 c=3"},
		{4, "a=1 b=2 c=3 d=4", "b=2 c=3 d=4 e=5", "a=1 b=2 c=3"},
		{5, "a=1 b=2 c=3 d=4 e=5", "b=2 c=3 d=4 e=5", "a=1 b=2 c=3"},
		{6, "a=1 b=2 c=3 d=4 e=5", "b=2 c=3 d=4 e=5", "a=1 b=2 c=3"},
		{api.MaxScan + 1, "a=1 b=2 c=3 d=4 e=5", "b=2 c=3 d=4 e=5", "a=1 b=2 c=3"},
		{math.MaxInt - 1, "a=1 b=2 c=3 d=4 e=5", "b=2 c=3 d=4 e=5", "a=1 b=2 c=3"},
		{math.MaxInt, "a=1 b=2 c=3 d=4 e=5", "b=2 c=3 d=4 e=5", "a=1 b=2 c=3"},
	} {
		wantScan(t, x, "", "", c.most, c.all)
		wantScan(t, x, "b", "", c.most, c.from)
		wantScan(t, x, "", "d", c.most, c.to)
	}
	many := manyRows(3000)
	if got := madeOf(t, many...).Scan(nil, nil, math.MaxInt); texts(got) != texts(many) {
		t.Errorf("Scan of many rows tells %d, not %d", len(got), len(many))
	}
}

// P7.2: which rows Scan tells: those from from on and below to.
func TestScanByRange(t *testing.T) {
	const all = "b=1 bb=2 d=3 d\x00=4 f=5"
	x := made(t, all)
	long := strings.Repeat("b", 64)
	for _, c := range [][3]string{
		{"", "", all}, {"\x00", "", all}, {"b", "", all}, {"b\x00", "", "bb=2 d=3 d\x00=4 f=5"}, {"c", "", "d=3 d\x00=4 f=5"},
		{"f", "", "f=5"}, {"f\x00", "", ""}, {"\xff", "", ""},
		{"", "\x00", ""}, {"", "b", ""}, {"", "b\x00", "b=1"}, {"", "bb", "b=1"}, {"", "d\x00", "b=1 bb=2 d=3"}, {"", "f", "b=1 bb=2 d=3 d\x00=4"},
		{"", "f\x00", all}, {"", "\xff", all},
		{"b", "f", "b=1 bb=2 d=3 d\x00=4"}, {"bb", "d", "bb=2"}, {"c", "e", "d=3 d\x00=4"}, {"c", "cc", ""}, {"d", "d\x00", "d=3"},
		{"d", "d", ""}, {"c", "c", ""}, {"d", "b", ""}, {"f", "\x00", ""}, {"z", "a", ""}, {"e", "c", ""}, {"f", "d", ""},
		{long, "", "d=3 d\x00=4 f=5"}, {long + "b", "", "d=3 d\x00=4 f=5"}, {"", long + "b", "b=1 bb=2"}, {long, long + "b", ""},
		{strings.Repeat("\xff", 500), "", ""}, {"", strings.Repeat("\xff", 500), all},
	} {
		wantScan(t, x, c[0], c[1], 9, c[2])
	}
	if got := texts(x.Scan(nil, nil, 9)); got != all {
		t.Errorf("Scan(nil, nil, 9): %q", got)
	}
	for _, most := range []int{-1, 0, 1, 9} {
		wantScan(t, made(t, ""), "", "", most, "")
		wantScan(t, made(t, ""), "a", "b", most, "")
		wantScan(t, made(t, ""), "b", "a", most, "")
		wantScan(t, x, "d", "b", most, "")
	}
}
