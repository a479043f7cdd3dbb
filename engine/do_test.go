package engine_test

import (
	"math"
	"strings"
	"testing"

	"wicket/api"
	"wicket/engine"
)

// behind is what one call does to a database.
type behind struct {
	rows, call, result, want string // what there was, the call, its result, the rows behind it
}

// wantBehind does each call by Try, by Look, if it only reads, and by Do.
func wantBehind(t *testing.T, q api.Quota, l []behind) {
	t.Helper()
	for _, b := range l {
		e := made(t, q, b.rows)
		c := parsed(t, b.call)
		o, r, errno := e.Try(c)
		if errno != api.OK || told(r) != b.result {
			t.Errorf("Try(%s) of %q: %q, %v, not %q", b.call, b.rows, told(r), errno, b.result)
		}
		wantRows(t, "what Try("+b.call+") told", o, b.want)
		wantRows(t, "behind Try("+b.call+")", e, b.rows)
		wantLooked(t, e, b)
		wantDo(t, e, b.call, b.result)
		wantRows(t, "behind Do("+b.call+")", e, b.want)
		wantSame(t, "what Try told and behind Do", o, e, true)
	}
}

func wantLooked(t *testing.T, e *engine.Engine, b behind) {
	t.Helper()
	result, want := b.result, api.OK
	for _, word := range []string{"put", "delete", "swap"} {
		if strings.Contains(b.call, word) {
			result, want = "", api.ErrArg
		}
	}
	if r, errno := e.Look(parsed(t, b.call)); errno != want || told(r) != result {
		t.Errorf("Look(%s) of %q: %q, %v, not %q, %v", b.call, b.rows, told(r), errno, result, want)
	}
	wantRows(t, "behind Look("+b.call+")", e, b.rows)
}

// P8.2: rows got, put, put again with more and with fewer bytes, taken out when they are there and when they are not.
func TestGetPutDelete(t *testing.T) {
	wantBehind(t, wide, []behind{
		{"", "get t a", "-", ""},
		{"t/a=1", "get t a", "+1", "t/a=1"},
		{"t/a=", "get t a", "+", "t/a="},
		{"t/a=1", "get t b; get u a; get t aa; get t a", "-; -; -; +1", "t/a=1"},
		{"t/a=1 u/a=2", "get u a; get t a", "+2; +1", "t/a=1 u/a=2"},
		{"", "put t a 1", "-", "t/a=1"},
		{"", "put t a %", "-", "t/a="},
		{"t/a=1", "put t a 1", "+", "t/a=1"},
		{"t/a=1", "put t a 4444", "+", "t/a=4444"},
		{"t/a=4444", "put t a 1", "+", "t/a=1"},
		{"t/a=4444", "put t a %", "+", "t/a="},
		{"t/a=1", "put u a 2", "-", "t/a=1 u/a=2"},
		{"t/b=1", "put t a 2; put t c 3; put t bb 4", "-; -; -", "t/a=2 t/b=1 t/bb=4 t/c=3"},
		{"t/a=1", "delete t a", "+", ""},
		{"t/a=", "delete t a", "+", ""},
		{"", "delete t a", "-", ""},
		{"t/a=1", "delete t b; delete u a", "-; -", "t/a=1"},
		{"t/a=1 t/b=2 u/a=3", "delete t a", "+", "t/b=2 u/a=3"},
		{"t/a=1 t/b=2 u/a=3", "delete u a; delete u a", "+; -", "t/a=1 t/b=2"},
	})
}

// P8.2: the ops of one call are done in order, each to what the ones ahead of it left.
func TestOpsInOrder(t *testing.T) {
	wantBehind(t, wide, []behind{
		{"", "get t a; put t a 1; get t a; put t a 2; get t a; delete t a; get t a", "-; -; +1; +; +2; +; -", ""},
		{"", "put t a 1; scan t % % 9; put t b 2; scan t % % 9; delete t a; scan t % % 9", "-; - a=1; -; - a=1 b=2; +; - b=2", "t/b=2"},
		{"t/a=1", "swap t a +1 2; swap t a +2 3; get t a", "+; +; +3", "t/a=3"},
		{"t/a=1", "swap t a +1 2; swap t a +1 3", "other at 1", "t/a=1"},
		{"t/a=1", "delete t a; swap t a - 2; swap t a +2 %", "+; -; +", "t/a="},
		{"t/a=1", "delete t a; delete t a; put t a 5; delete u a", "+; -; -; -", "t/a=5"},
		{"", "put t a 1; put t b 1; put t c 1; put t d 1; put u a 1; put u b 1; put u c 1; put u d 1; put v a 1; put v b 1; put v c 1; put v d 1; put w a 1; put w b 1; put w c 1; put w d 1",
			"-; -; -; -; -; -; -; -; -; -; -; -; -; -; -; -", "t/a=1 t/b=1 t/c=1 t/d=1 u/a=1 u/b=1 u/c=1 u/d=1 v/a=1 v/b=1 v/c=1 v/d=1 w/a=1 w/b=1 w/c=1 w/d=1"},
	})
}

// P8.2: swaps of each kind, met and not met.
func TestSwaps(t *testing.T) {
	wantBehind(t, wide, []behind{
		{"", "swap t a - 1", "-", "t/a=1"},
		{"", "swap t a - %", "-", "t/a="},
		{"t0/a=1 u/a=1", "swap t a - 1", "-", "t/a=1 t0/a=1 u/a=1"},
		{"t/a=1", "swap t a - 2", "other at 0", "t/a=1"},
		{"t/a=", "swap t a - 2", "other at 0", "t/a="},
		{"t/a=1", "swap t a +1 2", "+", "t/a=2"},
		{"t/a=1", "swap t a +1 1", "+", "t/a=1"},
		{"t/a=1", "swap t a +1 %", "+", "t/a="},
		{"t/a=", "swap t a +% 2", "+", "t/a=2"},
		{"", "swap t a +% 2", "other at 0", ""},
		{"", "swap t a +1 2", "other at 0", ""},
		{"t/a=1", "swap t a +% 2", "other at 0", "t/a=1"},
		{"t/a=1", "swap t a +2 1", "other at 0", "t/a=1"},
		{"t/a=1", "swap t a +11 2", "other at 0", "t/a=1"},
		{"t/a=11", "swap t a +1 2", "other at 0", "t/a=11"},
		{"t/a=1 t/b=2", "swap t b +1 3", "other at 0", "t/a=1 t/b=2"},
		{"t/a=1 u/a=2", "swap u a +1 3", "other at 0", "t/a=1 u/a=2"},
		{"t/a=1 u/a=2", "swap u a +2 3", "+", "t/a=1 u/a=3"},
	})
}

// P8.2: Scan: from Key on, below To, the first Most; of one table alone.
func TestScans(t *testing.T) {
	const all = "s/b=9 t/a=1 t/ab= t/b=2 t/c=3 t/\xff=4 u/b=9"
	var l []behind
	for _, x := range [][2]string{
		{"% % 64", "- a=1 ab= b=2 c=3 \xff=4"}, {"% % 5", "- a=1 ab= b=2 c=3 \xff=4"}, {"% % 4", "- a=1 ab= b=2 c=3"}, {"% % 1", "- a=1"},
		{"a % 9", "- a=1 ab= b=2 c=3 \xff=4"}, {"a%00 % 9", "- ab= b=2 c=3 \xff=4"}, {"b % 2", "- b=2 c=3"}, {"bb % 9", "- c=3 \xff=4"}, {"%FF % 9", "- \xff=4"}, {"%FF%00 % 9", "-"},
		{"% a 9", "-"}, {"% ab 9", "- a=1"}, {"% b 9", "- a=1 ab="}, {"% %FF 9", "- a=1 ab= b=2 c=3"}, {"% b 1", "- a=1"},
		{"ab c 9", "- ab= b=2"}, {"b b 9", "-"}, {"c b 9", "-"}, {"b b%00 9", "- b=2"}, {"ab c 1", "- ab="},
	} {
		l = append(l, behind{all, "scan t " + x[0], x[1], all})
	}
	l = append(l, behind{all, "scan r % % 9; scan u % % 9; scan s b % 9; scan tt % % 9", "-; - b=9; - b=9; -", all}, behind{"", "scan t % % 64", "-", ""})
	wantBehind(t, wide, l)
}

// P8.2: of many rows a Scan tells 64 at most.
func TestScanOfManyRows(t *testing.T) {
	e := madeOf(t, wide, many(200, 1)...)
	r, errno := e.Look(parsed(t, "scan t0000 k0100 % 64"))
	if errno != api.OK || len(r.Outs) != 1 || len(r.Outs[0].Rows) != 64 || string(r.Outs[0].Rows[0].Key) != "k0100" || string(r.Outs[0].Rows[63].Value) != "163" {
		t.Errorf("Look: %.200s, %v", told(r), errno)
	}
}

// P8.2: rows and bytes that are just the quota, and one more; an op that would leave both has AbortRows.
func TestQuota(t *testing.T) {
	wantBehind(t, api.Quota{Rows: 2, Bytes: 9}, []behind{
		{"", "put t a 12345678", "-", "t/a=12345678"},
		{"", "put t a 123456789", "bytes at 0", ""},
		{"", "put t abcdefghi %; get t abcdefghi", "-; +", "t/abcdefghi="},
		{"", "put t abcdefghij %", "bytes at 0", ""},
		{"t/a=1", "put u b 123456", "-", "t/a=1 u/b=123456"},
		{"t/a=1", "put u b 1234567", "bytes at 0", "t/a=1"},
		{"t/a=1", "put t b %; put t c %", "rows at 1", "t/a=1"},
		{"t/a=1 u/a=1", "put v a %", "rows at 0", "t/a=1 u/a=1"},
		{"t/a=1 t/b=123456", "put t c 1", "rows at 0", "t/a=1 t/b=123456"},
		{"t/a=1 t/b=123456", "put t c 123456789", "rows at 0", "t/a=1 t/b=123456"},
		{"t/a=1 t/b=123456", "put t a 2; put t b 654321", "+; +", "t/a=2 t/b=654321"},
		{"t/a=1 t/b=123456", "put t a 12", "bytes at 0", "t/a=1 t/b=123456"},
		{"t/a=1 t/b=123456", "put t a %; put t b 1234567", "+; +", "t/a= t/b=1234567"},
		{"t/a=1 t/b=123456", "put t b 1234567; put t a %", "bytes at 0", "t/a=1 t/b=123456"},
		{"t/a=1 t/b=123456", "delete t a; put t c 2", "+; -", "t/b=123456 t/c=2"},
		{"t/a=1 t/b=123456", "put t c 2; delete t a", "rows at 0", "t/a=1 t/b=123456"},
		{"t/a=1 t/b=123456", "delete t a; put t b 12345678; put t c %", "bytes at 2", "t/a=1 t/b=123456"},
		{"t/a=1 t/b=123456", "delete t b; put t a 12345678; put t a 1", "+; +; +", "t/a=1"},
		{"t/a=1 t/b=123456", "delete t z; put t c 2", "rows at 1", "t/a=1 t/b=123456"},
		{"t/a=1 t/b=123456", "get t a; scan t % % 9; delete t z", "+1; - a=1 b=123456; -", "t/a=1 t/b=123456"},
	})
}

// P8.2: a Swap is held against the rows first, then, as a Put, against the quota.
func TestSwapsAndTheQuota(t *testing.T) {
	const full = "t/a=1 t/b=123456"
	wantBehind(t, api.Quota{Rows: 2, Bytes: 9}, []behind{
		{full, "swap t a +2 12", "other at 0", full},
		{full, "swap t a - 12", "other at 0", full},
		{full, "swap t c +1 12", "other at 0", full},
		{full, "swap t a +1 12", "bytes at 0", full},
		{full, "swap t c - %", "rows at 0", full},
		{full, "swap t c - 123456789", "rows at 0", full},
		{full, "swap t a +1 9", "+", "t/a=9 t/b=123456"},
		{full, "swap t b +123456 %; swap t a +1 1234567", "+; +", "t/a=1234567 t/b="},
		{full, "delete t b; swap t c - 123456", "+; -", "t/a=1 t/c=123456"},
		{full, "delete t b; swap t c - 1234567", "bytes at 1", full},
	})
}

// P8.2: the least quota, and the greatest.
func TestLeastAndGreatestQuota(t *testing.T) {
	wantBehind(t, api.Quota{Rows: 1, Bytes: 1}, []behind{
		{"", "put t a %", "-", "t/a="}, {"", "put t a 1", "bytes at 0", ""}, {"", "put t ab %", "bytes at 0", ""},
		{"t/a=", "put t b %", "rows at 0", "t/a="}, {"t/a=", "put t b 1", "rows at 0", "t/a="}, {"t/a=", "delete t a; put u b %", "+; -", "u/b="},
	})
	e := madeOf(t, wide, many(4095, 9)...)
	wantDo(t, e, "put z a 1; put z b 1", "rows at 1")
	wantDo(t, e, "put z a 1", "-")
	wantDo(t, e, "put z a 2", "+")
	wantDo(t, e, "put z b 1", "rows at 0")
	if e.Len() != api.MaxRows {
		t.Errorf("%d rows", e.Len())
	}
	bytes := madeOf(t, api.Quota{Rows: api.MaxRows, Bytes: e.Size()}, listed(e.All())...)
	wantDo(t, bytes, "put z a 22", "bytes at 0")
	wantDo(t, bytes, "put z a 3; get z a", "+; +3")
	wantDo(t, bytes, "delete z a; put z ab %", "+; -")
}

// P8.2: each kind of abort, at the first op, in the middle, at the last one: nothing of the call is left.
func TestAborts(t *testing.T) {
	const all = "t/a=1 t/b=2 u/a=3"
	q := api.Quota{Rows: 4, Bytes: 20}
	fails := map[string]string{"swap t a +9 1": "other", "swap t a - 1": "other", "swap t z +1 1": "other", "put t c 12345678901234567890": "bytes", "swap t a +1 123456789012345678901": "bytes"}
	goes := []string{"put t b 5", "delete u a", "put v a 7", "get t a", "scan t % % 9", "delete w a", "swap t b +5 6", "delete t b", "put t b 8"}
	for fail, why := range fails {
		for at := range len(goes) {
			ops := append(append(append([]string{}, goes[:at]...), fail), goes[at:]...)
			for _, l := range [][]string{ops, ops[:at+1], append(ops, fail)} {
				wantBehind(t, q, []behind{{all, strings.Join(l, "; "), why + " at " + string(rune('0'+at)), all}})
			}
		}
	}
	wantBehind(t, q, []behind{
		{all, "put t c 1; put t d 1; put t e 1", "rows at 1", all},
		{all, "delete t a; put t c 1; put t d 1; put t e 1; delete t b", "rows at 3", all},
		{all, "put v a 1; get v a; put w a 1", "rows at 2", all},
		{all, "get t a; get t a; get t a; get t a; get t a; get t a; get t a; get t a; get t a; get t a; get t a; get t a; get t a; get t a; put t c 1; put t d 1", "rows at 15", all},
	})
}

// P8.2: calls that may not be are ErrArg, with each function, and change nothing.
func TestCallsThatMayNotBe(t *testing.T) {
	k := []byte("k")
	long := make([]byte, 257)
	ops := []api.Op{
		{}, {Kind: 6, Table: "t", Key: k}, {Kind: -1, Table: "t", Key: k}, {Kind: math.MaxInt, Table: "t", Key: k}, {Kind: api.Get, Key: k}, {Kind: api.Get, Table: "T", Key: k}, {Kind: api.Get, Table: "t"},
		{Kind: api.Get, Table: "t", Key: long[:65]}, {Kind: api.Get, Table: "t", Key: k, Value: k}, {Kind: api.Put, Table: "t", Key: k, Value: long}, {Kind: api.Put, Table: "t", Value: k},
		{Kind: api.Put, Table: "t", Key: k, Has: true}, {Kind: api.Delete, Table: "t"}, {Kind: api.Delete, Table: "t", Key: k, Most: 1}, {Kind: api.Swap, Table: "t", Key: k, Old: k},
		{Kind: api.Swap, Table: "t", Has: true}, {Kind: api.Swap, Table: "t", Key: k, Has: true, Old: long}, {Kind: api.Scan, Table: "t"}, {Kind: api.Scan, Table: "t", Most: 65},
		{Kind: api.Scan, Table: "t", Most: -1}, {Kind: api.Scan, Table: "t", Key: long[:65], Most: 1}, {Kind: api.Scan, Table: "t", To: long[:65], Most: 1}, {Kind: api.Scan, Table: "t", Most: 1, Has: true},
	}
	goes := put("t", "a", "9")
	l := []api.Call{{}, {Ops: []api.Op{}}}
	for _, op := range ops {
		l = append(l, call(op), call(goes, op), call(op, goes), call(put("t", "k", strings.Repeat("v", 99)), op))
	}
	seventeen := call(goes)
	for range 16 {
		seventeen.Ops = append(seventeen.Ops, goes)
	}
	for _, c := range append(l, seventeen) {
		wantRefusedCall(t, c, api.ErrArg)
	}
}

// wantRefusedCall asks Do, Look and Try: beside an error there is nothing.
func wantRefusedCall(t *testing.T, c api.Call, want api.Errno) {
	t.Helper()
	e := made(t, api.Quota{Rows: 3, Bytes: 9}, "t/a=1 u/b=2")
	if r, errno := e.Do(c); errno != want || told(r) != "" {
		t.Errorf("Do(%s): %s, %v, not %v", written(c), told(r), errno, want)
	}
	if r, errno := e.Look(c); errno != want || told(r) != "" {
		t.Errorf("Look(%s): %s, %v, not %v", written(c), told(r), errno, want)
	}
	if o, r, errno := e.Try(c); errno != want || told(r) != "" || o != nil {
		t.Errorf("Try(%s): %v, %s, %v, not %v", written(c), o != nil, told(r), errno, want)
	}
	wantRows(t, "behind what was refused", e, "t/a=1 u/b=2")
}

// sized is a call of 16 puts whose form has so many bytes, 4081 to 4209. One byte says how many ops they are; an op's kind,
// table and key, and how many bytes its value has, from 128 on, are 7 bytes.
func sized(many int) api.Call {
	var c api.Call
	for range 15 {
		c.Ops = append(c.Ops, put("t", "a", strings.Repeat("v", 256)))
	}
	return call(append(c.Ops, put("t", "a", strings.Repeat("v", many-1-15*(7+256)-7)))...)
}

// P8.2: calls that are just not too long go, one byte more is ErrLong; what may not be goes ahead of that.
func TestCallsThatAreTooLong(t *testing.T) {
	for _, many := range []int{4081, 4095, 4096} {
		e := made(t, wide, "u/b=2")
		r, errno := e.Do(sized(many))
		if errno != api.OK || len(r.Outs) != 16 || r.Outs[0].Has || !r.Outs[15].Has || e.Len() != 2 {
			t.Errorf("Do of %d bytes: %s, %v", many, told(r), errno)
		}
		if _, errno := e.Look(sized(many)); errno != api.ErrArg {
			t.Errorf("Look of %d bytes: %v", many, errno)
		}
		if o, r, errno := e.Try(sized(many)); errno != api.OK || !o.Same(e) || len(r.Outs) != 16 {
			t.Errorf("Try of %d bytes: %s, %v", many, told(r), errno)
		}
	}
	for _, many := range []int{4097, 4209} {
		wantRefusedCall(t, sized(many), api.ErrLong)
	}
	wrong := sized(4097)
	wrong.Ops[15].Table = ""
	wantRefusedCall(t, wrong, api.ErrArg)
	wrong = sized(4097)
	wrong.Ops = append(wrong.Ops, put("t", "a", ""))
	wantRefusedCall(t, wrong, api.ErrArg)
}

// P8.2: Look takes calls that only read alone, whatever the others would do.
func TestLookOfCallsThatDoNotOnlyRead(t *testing.T) {
	const all = "t/a=1 t/b=2"
	e := made(t, api.Quota{Rows: 2, Bytes: 9}, all)
	for _, text := range []string{
		"put t a 1", "put t a 2", "put t c 1", "delete t a", "delete t z", "swap t a +1 1", "swap t a +1 2", "swap t a +2 2", "swap t z - 1",
		"get t a; put t a 1", "delete t z; get t a", "scan t % % 9; delete t a; get t a", "get t a; swap t a +9 9",
	} {
		if r, errno := e.Look(parsed(t, text)); errno != api.ErrArg || told(r) != "" {
			t.Errorf("Look(%s): %s, %v", text, told(r), errno)
		}
		wantRows(t, "behind Look("+text+")", e, all)
	}
	for text, want := range map[string]string{"get t a": "+1", "get t a; scan t % % 9; get u a": "+1; - a=1 b=2; -", "scan u % % 1": "-"} {
		if r, errno := e.Look(parsed(t, text)); errno != api.OK || told(r) != want {
			t.Errorf("Look(%s): %s, %v", text, told(r), errno)
		}
	}
}

// P8.2: what Try told goes on apart from this database, and so do two that it told.
func TestTryGoesOnApart(t *testing.T) {
	e := made(t, api.Quota{Rows: 3, Bytes: 30}, "t/a=1 u/a=2")
	first, _, _ := e.Try(parsed(t, "put t b 3"))
	second, _, _ := e.Try(parsed(t, "swap t a +7 3"))
	third, _, _ := e.Try(parsed(t, "get t a"))
	if second == e || third == e || second == nil || third == nil {
		t.Fatal("Try of a call that changes nothing told this database, or none")
	}
	wantDo(t, e, "put t a 9", "+")
	wantDo(t, first, "delete u a", "+")
	wantDo(t, second, "put u b 5", "-")
	wantDo(t, third, "delete t a; delete u a", "+; +")
	fourth, _, _ := first.Try(parsed(t, "put t c 4"))
	wantRows(t, "this one", e, "t/a=9 u/a=2")
	wantRows(t, "the first one", first, "t/a=1 t/b=3")
	wantRows(t, "the second one", second, "t/a=1 u/a=2 u/b=5")
	wantRows(t, "the third one", third, "")
	wantRows(t, "the fourth one", fourth, "t/a=1 t/b=3 t/c=4")
	for _, o := range []*engine.Engine{first, second, third, fourth} {
		if o.Quota() != e.Quota() {
			t.Errorf("Quota: %v", o.Quota())
		}
	}
	wantDo(t, fourth, "put v a 1", "rows at 0")
}
