package calls_test

import (
	"math"
	"testing"

	"wicket/api"
	"wicket/calls"
)

func outs(l ...api.Out) api.Result {
	return api.Result{Outs: l}
}

func rows(l ...string) api.Out {
	var o api.Out
	for i := 0; i < len(l); i += 2 {
		o.Rows = append(o.Rows, api.Row{Key: []byte(l[i]), Value: []byte(l[i+1])})
	}
	return o
}

// manyRows is an out with so many rows, rising.
func manyRows(many int) api.Out {
	var o api.Out
	for i := range many {
		o.Rows = append(o.Rows, api.Row{Key: []byte{byte(i)}})
	}
	return o
}

func alike(a, b api.Result) bool {
	return a.Abort == b.Abort && a.Place == b.Place && len(a.Outs) == len(b.Outs) && plainResultForm(a) == plainResultForm(b)
}

// wantResult: Result is as the words say, and what it wrote is read as it was.
func wantResult(t *testing.T, r api.Result) {
	t.Helper()
	form, want := "", api.ErrArg
	if plainResultMayBe(r) {
		form, want = plainResultForm(r), api.OK
	}
	if b, e := calls.Result(r); string(b) != form || e != want || e != api.OK && b != nil {
		t.Errorf("Result(%.100v): % .60x, %v; want % .60x, %v", r, b, e, form, want)
	}
	if want == api.OK && !wantReadResult(t, form) {
		t.Errorf("%.100v is not read as it was", r)
	}
}

// wantReadResult: ReadResult is as the words say; it tells whether b is a form that may be.
func wantReadResult(t *testing.T, b string) bool {
	t.Helper()
	want, ok := plainReadResult(b)
	e := api.OK
	if !ok {
		want, e = api.Result{}, api.ErrBytes
	}
	got, is := calls.ReadResult([]byte(b))
	if is != e || !alike(got, want) || !calls.Alike(got, want) || !ok && got.Outs != nil {
		t.Errorf("ReadResult(% .60x): %.100v, %v; want %.100v, %v", b, got, is, want, e)
	}
	return ok
}

func wantReadBoth(t *testing.T, b string) bool {
	t.Helper()
	isCall, isResult := wantRead(t, b), wantReadResult(t, b)
	return isCall || isResult
}

func wantNoResult(t *testing.T, b string) {
	t.Helper()
	if r, e := calls.ReadResult([]byte(b)); e != api.ErrBytes || r.Abort != 0 || r.Place != 0 || r.Outs != nil {
		t.Errorf("ReadResult(% .60x): %.100v, %v", b, r, e)
	}
	wantReadResult(t, b)
}

// The chapter's section 'Examples', its fifth row.
func TestExamplesOfResults(t *testing.T) {
	for want, r := range map[string]api.Result{
		"\x01\x01":             {Abort: api.AbortOther, Place: 1},
		"\x00\x01\x00\x00\x00": outs(api.Out{}),
		"\x02\x00":             {Abort: api.AbortRows},
		"\x03\x0f":             {Abort: api.AbortBytes, Place: 15},
		"\x00\x02\x01\x01v\x00\x00\x00\x02\x01a\x01b\x01c\x00": outs(api.Out{Has: true, Value: []byte("v")}, rows("a", "b", "c", "")),
	} {
		if b, e := calls.Result(r); string(b) != want || e != api.OK {
			t.Errorf("Result(%v): % x, %v; want % x", r, b, e, want)
		}
		if got, e := calls.ReadResult([]byte(want)); !alike(got, r) || e != api.OK {
			t.Errorf("ReadResult(% x): %v, %v; want %v", want, got, e, r)
		}
		wantResult(t, r)
	}
}

// P6.2: results at their bounds.
func TestBoundsOfResults(t *testing.T) {
	key := func(n int) api.Out { return rows(a(n), "") }
	value := func(n int) api.Out { return rows("k", a(n)) }
	all := api.Out{Has: true, Value: []byte(a(256))}
	for i := range 64 {
		all.Rows = append(all.Rows, api.Row{Key: append([]byte{byte(i)}, a(63)...), Value: []byte(a(256))})
	}
	for _, r := range []api.Result{
		outs(make([]api.Out, 1)...), outs(make([]api.Out, 16)...), outs(api.Out{Value: []byte(a(256))}), outs(api.Out{Has: true, Value: []byte{}}),
		outs(manyRows(1)), outs(manyRows(63)), outs(manyRows(64)), outs(api.Out{}, manyRows(64)), outs(key(1)), outs(key(64)), outs(value(0)), outs(value(256)),
		outs(all, all, all, all, all, all, all, all, all, all, all, all, all, all, all, all),
		{Abort: api.AbortOther}, {Abort: api.AbortOther, Place: 15}, {Abort: api.AbortRows, Place: 15}, {Abort: api.AbortBytes, Place: 15}, {Abort: api.AbortBytes, Outs: []api.Out{}},
	} {
		if _, e := calls.Result(r); e != api.OK {
			t.Errorf("Result(%.100v): %v", r, e)
		}
		wantResult(t, r)
	}
	for _, r := range []api.Result{
		{}, outs([]api.Out{}...), outs(make([]api.Out, 17)...), outs(make([]api.Out, 100000)...), outs(api.Out{Value: []byte(a(257))}), outs(manyRows(65)), outs(api.Out{}, manyRows(65)),
		outs(key(0)), outs(key(65)), outs(value(257)), outs(rows("a", "", "b", a(257))), outs(rows("", "", "b", "")), outs(api.Out{}, key(0)),
		{Abort: api.AbortOther, Place: 16}, {Abort: api.AbortRows, Place: 16}, {Abort: api.AbortBytes, Place: -1}, {Abort: api.AbortOther, Place: math.MinInt}, {Abort: api.AbortOther, Place: math.MaxInt},
		{Abort: api.AbortNone, Place: 1, Outs: []api.Out{{}}}, {Abort: api.AbortNone, Place: -1, Outs: []api.Out{{}}}, {Abort: api.AbortNone, Place: 1},
		{Abort: api.AbortOther, Outs: []api.Out{{}}}, {Abort: api.AbortBytes, Place: 3, Outs: []api.Out{{}, {}}},
		{Abort: 4}, {Abort: -1}, {Abort: math.MinInt}, {Abort: math.MaxInt}, {Abort: 4, Outs: []api.Out{{}}}, {Abort: -1, Outs: []api.Out{{}}}, {Abort: 1 << 32},
	} {
		if b, e := calls.Result(r); e != api.ErrArg || b != nil {
			t.Errorf("Result(%.100v): % x, %v", r, b, e)
		}
		if wantResult(t, r); len(r.Outs) < 100 && (r.Abort != api.AbortNone || r.Place == 0) && (r.Abort == api.AbortNone || len(r.Outs) == 0) {
			wantNoResult(t, plainResultForm(r))
		}
	}
}

// P6.2: rows rise.
func TestRowsRise(t *testing.T) {
	for _, keys := range [][]string{{"a", "b"}, {"a", "ab"}, {"\x00", "\x00\x00"}, {"\x7f", "\x80"}, {"a\xff", "b"}, {"Z", "a"}, {"a", "b", "c"}, {a(63), a(64)}} {
		var up, down api.Out
		for i := range keys {
			up.Rows = append(up.Rows, api.Row{Key: []byte(keys[i])})
			down.Rows = append(down.Rows, api.Row{Key: []byte(keys[len(keys)-1-i])})
		}
		if _, e := calls.Result(outs(up)); e != api.OK {
			t.Errorf("Result of %q: %v", keys, e)
		}
		twice := api.Out{Rows: []api.Row{up.Rows[0], {Key: up.Rows[0].Key, Value: []byte("v")}}}
		last := api.Out{Rows: append(up.Rows[:len(keys):len(keys)], up.Rows[0])}
		for _, o := range []api.Out{down, twice, last} {
			for _, r := range []api.Result{outs(o), outs(up, o), outs(o, up)} {
				if _, e := calls.Result(r); e != api.ErrArg {
					t.Errorf("Result of rows that do not rise, %q: %v", keys, e)
				}
				wantNoResult(t, plainResultForm(r))
			}
		}
		wantResult(t, outs(up, up))
	}
}

func someResultForms() []string {
	var l []string
	for _, r := range []api.Result{
		{Abort: api.AbortOther, Place: 1}, {Abort: api.AbortBytes, Place: 15}, outs(api.Out{}), outs(api.Out{Has: true, Value: []byte("v")}),
		outs(rows("a", "x", "ab", "")), outs(api.Out{Has: true}, rows("a", "", "b", "y"), api.Out{Value: []byte(a(130))}),
	} {
		l = append(l, plainResultForm(r))
	}
	return l
}

// P6.2: bytes of which one is missing, too many, other.
func TestHarmedResultBytes(t *testing.T) {
	for _, form := range someResultForms() {
		if !wantReadResult(t, form) {
			t.Errorf("% x is no form", form)
		}
		for n := range len(form) {
			wantNoResult(t, form[:n])
			wantReadResult(t, form[:n]+form[n+1:])
			for other := range 256 {
				wantReadResult(t, form[:n]+string([]byte{byte(other)})+form[n+1:])
				wantReadResult(t, form[:n]+string([]byte{byte(other)})+form[n:])
			}
		}
		for more := range 256 {
			wantNoResult(t, form+string([]byte{byte(more)}))
		}
	}
}

// P6.2: numbers in other forms, flags that are none, counts above all that may be, and bytes that are many.
func TestWrongResultBytes(t *testing.T) {
	for _, b := range []string{
		"", "\x00", "\x00\x00", "\x01", "\x04\x00", "\x01\x10", "\x81\x00\x01", "\x01\x81\x00", "\x80\x00\x01\x00\x00\x00",
		"\x00\x81\x00\x00\x00\x00", "\x00\x01\x80\x00\x00\x00", "\x00\x01\x02\x00\x00", "\x00\x01\x00\x80\x00\x00", "\x00\x01\x00\x00\x80\x00",
		"\x00\x01\x00\x00\x01\x81\x00a\x00", "\x00\x01\x00\x00\x01\x01a\x80\x00", "\x00\x01\x00\x00\x01\x00\x00",
		"\x01\x81\x80\x80\x80\x10", "\x01\x81\x80\x80\x80\x80\x80\x80\x80\x80\x01", "\x81\x80\x80\x80\x10\x01", "\x81\x80\x80\x80\x80\x80\x80\x80\x80\x01\x01", "\x01\xff\xff\xff\xff\xff\xff\xff\xff\xff\x01",
		"\x00\xff\xff\xff\xff\xff\xff\xff\xff\xff\x01\x00\x00\x00", "\x00\x01\x00\x00\xff\xff\xff\xff\xff\xff\xff\xff\xff\x01", "\x00\x01\x00\xff\xff\xff\xff\xff\xff\xff\xff\xff\x01",
	} {
		wantNoResult(t, b)
	}
	for _, b := range []byte{0, 1, 255} {
		wantNoResult(t, string(b)+a(1<<20))
		many := make([]byte, 1<<20)
		for i := range many {
			many[i] = b
		}
		wantNoResult(t, string(many))
	}
}
