package engine_test

import (
	"fmt"
	"iter"
	"math"
	"slices"
	"strings"
	"testing"

	"wicket/api"
	"wicket/calls"
	"wicket/engine"
)

// wide is the greatest quota.
var wide = api.Quota{Rows: api.MaxRows, Bytes: api.MaxSize}

// rows reads rows as these tests write them: "t/a=1 u/b=" are the rows a 1 of t and b nothing of u.
func rows(text string) []api.Named {
	var l []api.Named
	for _, s := range strings.Fields(text) {
		table, row, _ := strings.Cut(s, "/")
		key, value, _ := strings.Cut(row, "=")
		l = append(l, api.Named{Table: table, Key: []byte(key), Value: []byte(value)})
	}
	return l
}

// namedText writes rows as these tests do.
func namedText(l []api.Named) string {
	var texts []string
	for _, r := range l {
		texts = append(texts, fmt.Sprintf("%s/%s=%s", r.Table, r.Key, r.Value))
	}
	return strings.Join(texts, " ")
}

func listed(over iter.Seq[api.Named]) []api.Named {
	var l []api.Named
	for r := range over {
		l = append(l, r)
	}
	return l
}

// told writes all that a result says: an out as + or -, its value, its rows; an abort and its place.
func told(r api.Result) string {
	var l []string
	for _, o := range r.Outs {
		s := map[bool]string{true: "+", false: "-"}[o.Has] + string(o.Value)
		for _, row := range o.Rows {
			s += fmt.Sprintf(" %s=%s", row.Key, row.Value)
		}
		l = append(l, s)
	}
	if r.Abort != api.AbortNone || r.Place != 0 {
		l = append(l, fmt.Sprintf("%s at %d", [...]string{"none", "other", "rows", "bytes"}[r.Abort], r.Place))
	}
	return strings.Join(l, "; ")
}

// written writes a call, one that may not be too.
func written(c api.Call) string {
	if s, e := calls.Text(c); e == api.OK {
		return s
	}
	return fmt.Sprintf("%.200v", c)
}

func parsed(t *testing.T, text string) api.Call {
	t.Helper()
	c, e := calls.Parse(text)
	if e != api.OK {
		t.Fatalf("%q is no call: %v", text, e)
	}
	return c
}

func put(table, key, value string) api.Op {
	return api.Op{Kind: api.Put, Table: table, Key: []byte(key), Value: []byte(value)}
}

func call(ops ...api.Op) api.Call {
	return api.Call{Ops: ops}
}

func made(t *testing.T, q api.Quota, text string) *engine.Engine {
	t.Helper()
	return madeOf(t, q, rows(text)...)
}

func madeOf(t *testing.T, q api.Quota, l ...api.Named) *engine.Engine {
	t.Helper()
	e, errno := engine.New(q, l...)
	if errno != api.OK || e == nil {
		t.Fatalf("New(%v, %.80q): %v, %v", q, namedText(l), e != nil, errno)
	}
	return e
}

func wantRefused(t *testing.T, q api.Quota, l []api.Named, want api.Errno) {
	t.Helper()
	if e, errno := engine.New(q, l...); e != nil || errno != want {
		t.Errorf("New(%v, %.80q): %v, %v, not %v", q, namedText(l), e != nil, errno, want)
	}
}

func wantNamed(t *testing.T, what string, got, want []api.Named) {
	t.Helper()
	if namedText(got) != namedText(want) || len(got) != len(want) {
		t.Fatalf("%s tells %.120q, not %.120q", what, namedText(got), namedText(want))
	}
}

func wantRows(t *testing.T, what string, e *engine.Engine, text string) {
	t.Helper()
	if got := namedText(listed(e.All())); got != text {
		t.Errorf("%s: the rows are %.120q, not %.120q", what, got, text)
	}
	size := 0
	for _, r := range rows(text) {
		size += len(r.Key) + len(r.Value)
	}
	if e.Len() != len(rows(text)) || e.Size() != size {
		t.Errorf("%s: Len, Size are %d, %d, not %d, %d", what, e.Len(), e.Size(), len(rows(text)), size)
	}
}

func wantDo(t *testing.T, e *engine.Engine, text, want string) {
	t.Helper()
	if r, errno := e.Do(parsed(t, text)); told(r) != want || errno != api.OK {
		t.Errorf("Do(%s): %.120q, %v, not %.120q", text, told(r), errno, want)
	}
}

// The chapter's section 'Examples', row by row.
func TestExamples(t *testing.T) {
	q := api.Quota{Rows: 2, Bytes: 9}
	wantRefused(t, api.Quota{Bytes: 9}, nil, api.ErrArg)
	wantRefused(t, q, rows("t/b=1 t/a=1"), api.ErrArg)

	e := made(t, q, "")
	wantDo(t, e, "put t a 1; get t a; get u a", "-; +1; -")
	e = made(t, q, "")
	wantDo(t, e, "put t a 1", "-")
	wantDo(t, e, "get t a", "+1")
	wantDo(t, e, "get u a", "-")
	wantDo(t, e, "put t b 22; put t c 3", "rows at 1")
	wantRows(t, "behind AbortRows", e, "t/a=1")
	wantDo(t, e, "put t b 222222; put t a 1", "-; +")
	wantRows(t, "behind two puts", e, "t/a=1 t/b=222222")
	wantDo(t, e, "put t a 12; delete t b", "bytes at 0")
	wantDo(t, e, "swap t a +2 5", "other at 0")
	wantDo(t, e, "swap t a +1 5", "+")
	wantDo(t, e, "swap t z - 1", "rows at 0")
	wantDo(t, e, "scan t % % 9", "- a=5 b=222222")
	wantDo(t, e, "scan t b % 9", "- b=222222")
	wantDo(t, e, "scan t % b 1", "- a=5")
	wantRows(t, "behind all of them", e, "t/a=5 t/b=222222")
}

// P8.1: quotas at their least and greatest, one below and one above, and far off.
func TestQuotasThatMayBe(t *testing.T) {
	for rows, mayBe := range map[int]bool{math.MinInt: false, -4096: false, -1: false, 0: false, 1: true, 2: true, 4095: true, 4096: true, 4097: false, 1 << 20: false, 1<<32 + 1: false, math.MaxInt: false} {
		for bytes, mayBeToo := range map[int]bool{math.MinInt: false, -1: false, 0: false, 1: true, 2: true, 1<<20 - 1: true, 1 << 20: true, 1<<20 + 1: false, 1<<32 + 1: false, math.MaxInt: false} {
			q := api.Quota{Rows: rows, Bytes: bytes}
			if !mayBe || !mayBeToo {
				wantRefused(t, q, nil, api.ErrArg)
				continue
			}
			if e := madeOf(t, q); e.Quota() != q || e.Len() != 0 || e.Size() != 0 {
				t.Errorf("New(%v): %v, %d, %d", q, e.Quota(), e.Len(), e.Size())
			}
		}
	}
}

// P8.1: a database with these rows: of none, of one, of many, of several tables; keys are held against each other within a
// table alone, tables by their names' bytes.
func TestNewHasTheRows(t *testing.T) {
	for _, text := range []string{
		"", "t/a=1", "t/a=", "t/a=1 t/b=2", "a/z=1 b/a=1", "t/z=1 u/a=1 u/b= v/a=1", "0/k=1 9/k=1 a/k=1 a0/k=1 aa/k=1 b/k=1 z/k=1",
		"t/a=1 t/aa=1 t/ab=1 t/b=1", "t/\x01=1 t/a=1 t/\x7f=1 t/\xff=1", "t/a=1 tt/a=1 u/a=1", namedText(many(300, 7)),
	} {
		for _, q := range []api.Quota{wide, {Rows: 301, Bytes: 1 << 14}} {
			e := made(t, q, text)
			wantRows(t, "New", e, text)
			if e.Quota() != q {
				t.Errorf("Quota: %v, not %v", e.Quota(), q)
			}
		}
	}
}

// many is so many rows of so many tables, in order.
func many(n, tables int) []api.Named {
	var l []api.Named
	for i := range n {
		l = append(l, api.Named{Table: fmt.Sprintf("t%04d", i*tables/n), Key: fmt.Appendf(nil, "k%04d", i), Value: fmt.Appendf(nil, "%d", i)})
	}
	return l
}

// P8.1: rows that are not in order, and such that have one table and key twice, wherever they stand.
func TestRowsNotInOrder(t *testing.T) {
	for _, text := range []string{
		"t/b=1 t/a=1", "t/a=1 t/a=1", "t/a=1 t/a=2", "u/a=1 t/b=1", "t/a=1 u/a=1 t/b=1", "t/a=1 u/a=1 t/a=1", "t/a=1 u/b=1 u/a=1", "t/ab=1 t/a=1",
		"b/a=1 a/b=1", "aa/a=1 a/b=1", "a/a=1 0/b=1", "a/a=1 aa/a=1 a0/a=1", "t/\xff=1 t/a=1", "t/a=1 t/b=1 t/c=1 t/b=1", "t/a=1 t/b=1 u/a=1 u/a=1",
	} {
		wantRefused(t, wide, rows(text), api.ErrArg)
	}
	for at := range 20 {
		l := many(21, 3)
		l[at], l[at+1] = l[at+1], l[at]
		wantRefused(t, wide, l, api.ErrArg)
		l = many(20, 3)
		wantRefused(t, wide, slices.Insert(l, at, l[at]), api.ErrArg)
	}
}

// P8.1: names, keys and values that may not be, in the first row, in the middle and in the last one.
func TestRowsThatMayNotBe(t *testing.T) {
	long := strings.Repeat("t1", 200)
	wrong := []api.Named{
		{}, {Table: "t1"}, {Key: []byte("k")}, {Table: "t1", Key: []byte{}}, {Table: "t1", Key: []byte(long[:65])}, {Table: "t1", Key: []byte("k"), Value: []byte(long[:257])},
		{Table: long[:17], Key: []byte("k")}, {Table: "t_1", Key: []byte("k")}, {Table: "t1 ", Key: []byte("k")}, {Table: "t1\x00", Key: []byte("k")}, {Table: "\xff", Key: []byte("k")},
		{Table: "T", Key: []byte("k")}, {Table: "t/", Key: []byte("k")}, {Table: "ä", Key: []byte("k")}, {Table: long, Key: []byte("k")},
	}
	for _, r := range wrong {
		wantRefused(t, wide, []api.Named{r}, api.ErrArg)
		wantRefused(t, wide, []api.Named{r, r}, api.ErrArg)
		wantRefused(t, wide, append(rows("t0/a=1 t1/a=1"), r), api.ErrArg)
		wantRefused(t, wide, append([]api.Named{r}, rows("zz/a=1 zz/b=1")...), api.ErrArg)
		wantRefused(t, wide, append(append(rows("t0/a=1"), r), rows("zz/b=1")...), api.ErrArg)
	}
	right := []api.Named{{Table: long[:16], Key: []byte(long[:64]), Value: []byte(long[:256])}}
	if e := madeOf(t, wide, right...); e.Len() != 1 || e.Size() != 320 {
		t.Errorf("Len, Size of the greatest row: %d, %d", e.Len(), e.Size())
	}
}

// P8.1: rows and bytes that are just the quota, and one more; tables' names are no part of the size.
func TestRowsAboveTheQuota(t *testing.T) {
	const text = "t/a=1 t/b=22 u/a= ublongername/abc=333" // 4 rows, 12 bytes
	l := rows(text)
	for _, q := range []api.Quota{{Rows: 4, Bytes: 12}, {Rows: 5, Bytes: 12}, {Rows: 4, Bytes: 13}, wide} {
		wantRows(t, "New", madeOf(t, q, l...), text)
	}
	for _, q := range []api.Quota{{Rows: 3, Bytes: 12}, {Rows: 4, Bytes: 11}, {Rows: 1, Bytes: 1}, {Rows: 3, Bytes: api.MaxSize}, {Rows: api.MaxRows, Bytes: 11}} {
		wantRefused(t, q, l, api.ErrFull)
	}
	wantRefused(t, api.Quota{Rows: 1, Bytes: 1}, rows("t/a=1"), api.ErrFull)
	wantRows(t, "one row of one byte", made(t, api.Quota{Rows: 1, Bytes: 1}, "t/a="), "t/a=")

	if e := madeOf(t, wide, many(4096, 4096)...); e.Len() != 4096 || len(e.Tables()) != 4096 {
		t.Errorf("%d rows of %d tables", e.Len(), len(e.Tables()))
	}
	wantRefused(t, wide, many(4097, 1), api.ErrFull)
	wantRefused(t, wide, many(9000, 9000), api.ErrFull)
}

// P8.1: as many bytes as may be, and one more.
func TestGreatestSize(t *testing.T) {
	l := many(4096, 4)
	for i := range l {
		l[i].Value = []byte(strings.Repeat("v", 251)) // with its key 256 bytes
	}
	if e := madeOf(t, wide, l...); e.Size() != api.MaxSize || e.Len() != api.MaxRows {
		t.Errorf("Len, Size: %d, %d", e.Len(), e.Size())
	}
	l[4000].Value = append(l[4000].Value, 'v')
	wantRefused(t, wide, l, api.ErrFull)
	l[0].Value = l[0].Value[1:]
	if e := madeOf(t, wide, l...); e.Size() != api.MaxSize {
		t.Errorf("Size: %d", e.Size())
	}
}

// P8.1, the chapter's section 'Errors': what may not be goes ahead of rows above the quota, wherever it stands.
func TestWhichErrorComesFirst(t *testing.T) {
	small := api.Quota{Rows: 1, Bytes: 1}
	for _, q := range []api.Quota{{}, {Rows: 0, Bytes: 9}, {Rows: 1, Bytes: 0}, {Rows: -1, Bytes: 9}, {Rows: 4097, Bytes: 1}, {Rows: 1, Bytes: 1<<20 + 1}} {
		wantRefused(t, q, rows("t/a=1 t/b=2"), api.ErrArg)
		wantRefused(t, q, rows("t/b=1 t/a=2"), api.ErrArg)
	}
	wantRefused(t, small, rows("t/a=1 t/b=2"), api.ErrFull)
	wantRefused(t, small, rows("t/a=1 t/b=2 t/a=3"), api.ErrArg)
	wantRefused(t, small, rows("t/a=1 t/b=2 u/a=1 u/a=1"), api.ErrArg)
	wantRefused(t, small, rows("t/a=1 t/b=2 U/a=1"), api.ErrArg)
	wantRefused(t, small, rows("t/a=1 t/b=2 u/=1"), api.ErrArg)
	wantRefused(t, small, append(rows("t/a=1 t/b=2"), api.Named{Table: "u", Key: []byte("a"), Value: make([]byte, 257)}), api.ErrArg)
	wantRefused(t, wide, append(many(5000, 5), rows("t/a=1")...), api.ErrArg)
}
