package calls_test

import (
	"bytes"
	"math"
	"strings"
	"testing"

	"wicket/api"
	"wicket/calls"
)

func get(table, key string) api.Op {
	return api.Op{Kind: api.Get, Table: table, Key: []byte(key)}
}

func put(table, key, value string) api.Op {
	return api.Op{Kind: api.Put, Table: table, Key: []byte(key), Value: []byte(value)}
}

func remove(table, key string) api.Op {
	return api.Op{Kind: api.Delete, Table: table, Key: []byte(key)}
}

func swap(table, key, old, value string) api.Op {
	return api.Op{Kind: api.Swap, Table: table, Key: []byte(key), Has: true, Old: []byte(old), Value: []byte(value)}
}

func swapNone(table, key, value string) api.Op {
	return api.Op{Kind: api.Swap, Table: table, Key: []byte(key), Value: []byte(value)}
}

func scan(table, from, to string, most int) api.Op {
	return api.Op{Kind: api.Scan, Table: table, Key: []byte(from), To: []byte(to), Most: most}
}

func call(ops ...api.Op) api.Call {
	return api.Call{Ops: ops}
}

// times is a call that has the op so many times.
func times(many int, op api.Op) api.Call {
	var c api.Call
	for range many {
		c.Ops = append(c.Ops, op)
	}
	return c
}

func a(many int) string {
	return strings.Repeat("a", many)
}

// sized is a call whose form has so many bytes, from 3952 to 4079, or from 4081 to 4209.
func sized(many int) api.Call {
	c := times(15, put("t", "k", a(256)))
	last := many - 3952
	if last > 127 {
		last--
	}
	return call(append(c.Ops, put("t", "k", a(last)))...)
}

func same(a, b api.Call) bool {
	return len(a.Ops) == len(b.Ops) && plainForm(a) == plainForm(b)
}

// wantCall: Check, Reads, Bytes, Text are as the words say; and what they wrote is read as it was.
func wantCall(t *testing.T, c api.Call) {
	t.Helper()
	want := plainCheck(c)
	form, text := "", ""
	if want == api.OK {
		form, text = plainForm(c), plainText(c)
	}
	if e := calls.Check(c); e != want {
		t.Errorf("Check(%.200q): %v, want %v", plainText(c), e, want)
	}
	if is := calls.Reads(c); is != plainReads(c) {
		t.Errorf("Reads(%.200q): %v", plainText(c), is)
	}
	if b, e := calls.Bytes(c); string(b) != form || e != want || e != api.OK && b != nil {
		t.Errorf("Bytes(%.200q): % .60x, %v; want % .60x, %v", plainText(c), b, e, form, want)
	}
	if s, e := calls.Text(c); s != text || e != want {
		t.Errorf("Text: %.200q, %v; want %.200q, %v", s, e, text, want)
	}
	if want == api.OK && (!wantRead(t, form) || !wantParse(t, text)) {
		t.Errorf("%.200q is not read as it was", text)
	}
}

// wantRead: Read is as the words say; it tells whether b is a form that may be.
func wantRead(t *testing.T, b string) bool {
	t.Helper()
	want, e := api.Call{}, api.ErrLong
	if len(b) <= 4096 {
		e = api.ErrBytes
		if c, ok := plainRead(b); ok {
			want, e = c, api.OK
		}
	}
	got, is := calls.Read([]byte(b))
	if is != e || !same(got, want) || !calls.Same(got, want) || e != api.OK && got.Ops != nil {
		t.Errorf("Read(% .60x): %.100q, %v; want %.100q, %v", b, plainText(got), is, plainText(want), e)
	}
	return e == api.OK
}

// wantRefusedBytes: Read and the words refuse b.
func wantRefusedBytes(t *testing.T, b string, want api.Errno) {
	t.Helper()
	if wantRead(t, b); t.Failed() {
		return
	}
	if c, e := calls.Read([]byte(b)); e != want || c.Ops != nil {
		t.Errorf("Read(% .60x): %v, want %v", b, e, want)
	}
}

// The chapter's section 'Examples', its first three rows.
func TestExamplesOfCalls(t *testing.T) {
	key := []byte("k")
	for _, c := range []api.Call{{}, call(get("t", "")), call(api.Op{Kind: api.Get, Table: "t", Key: key, Value: key}), call(scan("t", "", "", 0))} {
		if e := calls.Check(c); e != api.ErrArg {
			t.Errorf("Check(%q): %v", plainText(c), e)
		}
		wantCall(t, c)
	}
	for want, c := range map[string]api.Call{
		"\x01\x01\x01\x74\x01\x6B":                                    call(get("t", "k")),
		"\x02\x02\x01\x74\x01\x6B\x01\x76\x01\x01\x74\x01\x6B":        call(put("t", "k", "v"), get("t", "k")),
		"\x01\x03\x01t\x01k":                                          call(remove("t", "k")),
		"\x02\x04\x01t\x01k\x01\x01a\x01b\x04\x01t\x01k\x00\x00\x01b": call(swap("t", "k", "a", "b"), swapNone("t", "k", "b")),
		"\x01\x05\x01t\x00\x01z\x05":                                  call(scan("t", "", "z", 5)),
	} {
		if b, e := calls.Bytes(c); string(b) != want || e != api.OK {
			t.Errorf("Bytes(%s): % x, %v; want % x", plainText(c), b, e, want)
		}
		if got, e := calls.Read([]byte(want)); !same(got, c) || e != api.OK {
			t.Errorf("Read(% x): %s, %v; want %s", want, plainText(got), e, plainText(c))
		}
		wantCall(t, c)
	}
}

// P6.1: how many ops a call has.
func TestHowManyOps(t *testing.T) {
	for many, want := range map[int]api.Errno{0: api.ErrArg, 1: api.OK, 2: api.OK, 15: api.OK, 16: api.OK, 17: api.ErrArg, 100000: api.ErrArg} {
		c := times(many, get("t", "k"))
		if e := calls.Check(c); e != want {
			t.Errorf("Check of %d ops: %v, want %v", many, e, want)
		}
		if calls.Reads(c) != (want == api.OK) {
			t.Errorf("Reads of %d ops: %v", many, calls.Reads(c))
		}
		if many < 100 {
			wantCall(t, c)
		}
	}
	if e := calls.Check(api.Call{Ops: []api.Op{}}); e != api.ErrArg {
		t.Errorf("Check of an empty list: %v", e)
	}
	wantRefusedBytes(t, "\x00", api.ErrBytes)
	wantRefusedBytes(t, plainForm(times(17, get("t", "k"))), api.ErrBytes)
	wantRefusedBytes(t, number(1<<40)+plainForm(call(get("t", "k")))[1:], api.ErrBytes)
}

// opEdges are ops at their bounds and one past them.
func opEdges() map[string]map[api.Errno][]api.Op {
	return map[string]map[api.Errno][]api.Op{
		"tables": {
			api.OK:     {get("a", "k"), get("z", "k"), get("0", "k"), get("9", "k"), put(a(16), "k", ""), remove(a(16), "k"), swap(a(16), "k", "", ""), scan(a(16), "", "", 1)},
			api.ErrArg: {get("", "k"), get(a(17), "k"), get("T", "k"), get("t t", "k"), get("`", "k"), get("{", "k"), get("/", "k"), get(":", "k"), get("\xe9", "k"), put("", "k", ""), remove("-", "k"), swap(a(17), "k", "", ""), scan("", "", "", 1), scan(a(17), "", "", 1)},
		},
		"keys": {
			api.OK:     {get("t", a(64)), put("t", a(64), ""), remove("t", a(64)), swap("t", a(64), "", ""), swapNone("t", a(64), ""), scan("t", "", "", 1), scan("t", "a", "", 1), scan("t", a(64), "", 1), get("t", "\x00"), get("t", "\xff %")},
			api.ErrArg: {get("t", ""), put("t", "", "v"), remove("t", ""), swap("t", "", "a", "b"), swapNone("t", "", "b"), get("t", a(65)), put("t", a(65), ""), remove("t", a(65)), swap("t", a(65), "", ""), swapNone("t", a(65), ""), scan("t", a(65), "", 1)},
		},
		"values": {
			api.OK:     {put("t", "k", ""), put("t", "k", a(256)), swap("t", "k", "", a(256)), swapNone("t", "k", a(256)), swap("t", "k", a(256), ""), swap("t", "k", a(256), a(256)), swap("t", "k", "", ""), swapNone("t", "k", "")},
			api.ErrArg: {put("t", "k", a(257)), swap("t", "k", "", a(257)), swapNone("t", "k", a(257)), swap("t", "k", a(257), "")},
		},
		"ends": {
			api.OK:     {scan("t", "", "a", 1), scan("t", "", a(64), 1), scan("t", "b", "a", 1), scan("t", a(64), a(64), 64)},
			api.ErrArg: {scan("t", "", a(65), 1)},
		},
		"rows": {
			api.OK:     {scan("t", "", "", 1), scan("t", "", "", 2), scan("t", "", "", 63), scan("t", "", "", 64)},
			api.ErrArg: {scan("t", "", "", 0), scan("t", "", "", 65), scan("t", "", "", -1), scan("t", "", "", math.MinInt), scan("t", "", "", math.MaxInt), scan("t", "", "", 1<<32+1)},
		},
	}
}

// P6.1: tables, keys, values, ends, rows at their bounds.
func TestBoundsOfOps(t *testing.T) {
	for what, edges := range opEdges() {
		for want, ops := range edges {
			for _, op := range ops {
				for _, c := range []api.Call{call(op), call(get("t", "k"), op), call(op, get("t", "k"))} {
					if e := calls.Check(c); e != want {
						t.Errorf("%s: Check(%q): %v, want %v", what, plainText(c), e, want)
					}
					wantCall(t, c)
				}
				if want == api.ErrArg {
					wantRefusedBytes(t, plainForm(call(op)), api.ErrBytes)
				}
			}
		}
	}
}

// P6.1: kinds that are none.
func TestKinds(t *testing.T) {
	for _, kind := range []api.OpKind{0, 6, 7, 255, 256, 257, 1<<32 + 1, -1, math.MinInt, math.MaxInt} {
		for _, op := range []api.Op{get("t", "k"), put("t", "k", "v"), swap("t", "k", "a", "b"), scan("t", "k", "z", 3), {}} {
			op.Kind = kind
			if e := calls.Check(call(op)); e != api.ErrArg {
				t.Errorf("Check of kind %d: %v", kind, e)
			}
			wantCall(t, call(op))
			wantRefusedBytes(t, plainForm(call(op)), api.ErrBytes)
		}
	}
}

// P6.1: each field that a kind does not name, set; and set to a list without things, which is none.
func TestFieldsThatAKindDoesNotName(t *testing.T) {
	x := []byte("x")
	fields := map[string]func(*api.Op){
		"Value": func(op *api.Op) { op.Value = x }, "Has": func(op *api.Op) { op.Has = true }, "Old": func(op *api.Op) { op.Old = x },
		"To": func(op *api.Op) { op.To = x }, "Most": func(op *api.Op) { op.Most = 1 }, "Most below 0": func(op *api.Op) { op.Most = -1 },
	}
	for kind, names := range map[api.OpKind]string{api.Get: "", api.Put: "Value", api.Delete: "", api.Swap: "Value Has", api.Scan: "To Most"} {
		for field, set := range fields {
			op := api.Op{Kind: kind, Table: "t", Key: x}
			if kind == api.Scan {
				op.Most = 1
			}
			if e := calls.Check(call(op)); e != api.OK {
				t.Errorf("Check of kind %d: %v", kind, e)
			}
			set(&op)
			want := api.ErrArg
			if strings.Contains(names, field) {
				want = api.OK
			}
			if e := calls.Check(call(op)); e != want {
				t.Errorf("Check of kind %d with %s: %v, want %v", kind, field, e, want)
			}
			wantCall(t, call(op))
		}
		op := api.Op{Kind: kind, Table: "t", Key: x, Value: []byte{}, Old: []byte{}, To: []byte{}}
		if kind == api.Scan {
			op.Most = 1
		}
		wantCall(t, call(op))
		if e := calls.Check(call(op)); e != api.OK {
			t.Errorf("Check of kind %d with lists without things: %v", kind, e)
		}
	}
}

// P6.1: an Old without Has may not be; a Swap without Has and without an Old may.
func TestOldWithoutHas(t *testing.T) {
	op := swap("t", "k", "a", "b")
	op.Has = false
	if e := calls.Check(call(op)); e != api.ErrArg {
		t.Errorf("Check: %v", e)
	}
	wantCall(t, call(op))
	wantRefusedBytes(t, "\x01\x04\x01t\x01k\x00\x01a\x01b", api.ErrBytes)
	op.Old = nil
	wantCall(t, call(op))
	wantCall(t, call(swap("t", "k", "", "b")))
}

// P6.1: a form of as many bytes as may be, and of more; what may not be goes ahead of that.
func TestHowLongAFormIs(t *testing.T) {
	for many, want := range map[int]api.Errno{4000: api.OK, 4095: api.OK, 4096: api.OK, 4097: api.ErrLong, 4098: api.ErrLong, 4209: api.ErrLong} {
		c := sized(many)
		if n := len(plainForm(c)); n != many {
			t.Fatalf("%d bytes, want %d", n, many)
		}
		if e := calls.Check(c); e != want {
			t.Errorf("Check of %d bytes: %v, want %v", many, e, want)
		}
		wantCall(t, c)
		if want == api.ErrLong {
			wantRefusedBytes(t, plainForm(c), api.ErrLong)
		}
	}
	most := times(16, swap(a(16), a(64), a(256), a(256)))
	wantCall(t, most)
	if e := calls.Check(most); e != api.ErrLong {
		t.Errorf("Check of the longest call: %v", e)
	}
	most.Ops[15].Most = 1
	wrong := times(17, put("t", "k", a(256)))
	for _, c := range []api.Call{most, wrong} {
		wantCall(t, c)
		if e := calls.Check(c); e != api.ErrArg {
			t.Errorf("Check of a long call that may not be: %v", e)
		}
	}
}

// P6.1: bytes that are too long are not looked at.
func TestLongBytes(t *testing.T) {
	for _, b := range []byte{0, 1, 255} {
		wantRefusedBytes(t, string(bytes.Repeat([]byte{b}, 4096)), api.ErrBytes)
		wantRefusedBytes(t, string(bytes.Repeat([]byte{b}, 4097)), api.ErrLong)
		wantRefusedBytes(t, string(bytes.Repeat([]byte{b}, 1<<20)), api.ErrLong)
	}
	wantRefusedBytes(t, plainForm(sized(4096))+"\x00", api.ErrLong)
	wantRefusedBytes(t, plainForm(sized(4095))+"\x00", api.ErrBytes)
}

// P6.1: Reads.
func TestReads(t *testing.T) {
	for _, c := range []api.Call{
		call(get("t", "k")), call(scan("t", "", "", 64)), call(get("t", "k"), scan("t", "a", "z", 1), get("u", "k")),
		times(16, get("t", "k")), times(16, scan(a(16), a(64), a(64), 64)),
	} {
		if !calls.Reads(c) {
			t.Errorf("Reads(%.60s) is false", plainText(c))
		}
	}
	for _, c := range []api.Call{
		{}, call(put("t", "k", "")), call(remove("t", "k")), call(swap("t", "k", "a", "a")), call(swapNone("t", "k", "")),
		call(get("t", "k"), put("t", "k", "v")), call(put("t", "k", "v"), get("t", "k")), call(scan("t", "", "", 1), remove("t", "k"), get("t", "k")),
		call(get("t", "")), call(get("t", "k"), get("", "k")), call(scan("t", "", "", 0)), times(17, get("t", "k")), call(api.Op{}), call(get("t", "k"), api.Op{Kind: 6, Table: "t", Key: []byte("k")}),
	} {
		if calls.Reads(c) {
			t.Errorf("Reads(%.60s) is true", plainText(c))
		}
	}
}

// someForms are forms of calls of each kind.
func someForms() []string {
	var l []string
	for _, c := range []api.Call{
		call(get("t", "k")), call(put("t", "k", "v")), call(put("t", "k", "")), call(remove("t", "k")), call(swap("t", "k", "a", "b")), call(swap("t", "k", "", "b")),
		call(swapNone("t", "k", "b")), call(scan("t", "a", "z", 5)), call(scan("t", "", "", 64)), call(put("t", "k", "v"), get("u", "kk"), scan("t", "", "z", 1)), call(put("t", a(64), a(130))),
	} {
		l = append(l, plainForm(c))
	}
	return l
}

// P6.1: bytes of which some are missing, or one is too many.
func TestBytesMissingAndTooMany(t *testing.T) {
	for _, form := range someForms() {
		if !wantRead(t, form) {
			t.Errorf("% x is no form", form)
		}
		for n := range len(form) {
			wantRefusedBytes(t, form[:n], api.ErrBytes)
			wantRead(t, form[:n]+form[n+1:])
		}
		for more := range 256 {
			wantRefusedBytes(t, form+string([]byte{byte(more)}), api.ErrBytes)
			for n := range min(len(form), 20) {
				wantRead(t, form[:n]+string([]byte{byte(more)})+form[n:])
			}
		}
	}
}

// P6.1: bytes of which one is other.
func TestOneByteOther(t *testing.T) {
	for _, form := range someForms() {
		for n := range min(len(form), 90) {
			for other := range 256 {
				wantRead(t, form[:n]+string([]byte{byte(other)})+form[n+1:])
			}
		}
	}
}

// P6.1: numbers in a form that is not the shortest one, or that are above all that may be.
func TestOtherFormsOfNumbers(t *testing.T) {
	for _, b := range []string{
		"\x81\x00\x01\x01t\x01k", "\x01\x81\x00\x01t\x01k", "\x01\x01\x81\x00t\x01k", "\x01\x01\x01t\x81\x00k", "\x01\x81\x80\x00\x01t\x01k",
		"\x01\x02\x01t\x01k\x80\x00", "\x01\x02\x01t\x01k\x81\x00v",
		"\x01\x04\x01t\x01k\x81\x00\x01a\x01b", "\x01\x04\x01t\x01k\x02\x01a\x01b", "\x01\x04\x01t\x01k\x01\x81\x00a\x01b", "\x01\x04\x01t\x01k\x01\x01a\x81\x00b",
		"\x01\x05\x01t\x80\x00\x01z\x05", "\x01\x05\x01t\x00\x81\x00z\x05", "\x01\x05\x01t\x00\x01z\x85\x00", "\x01\x05\x01t\x00\x01z\x00", "\x01\x05\x01t\x00\x01z\x41",
		"\x01\x05\x01t\x00\x01z\x81\x80\x80\x80\x80\x80\x80\x80\x80\x01", "\x01\x05\x01t\x00\x01z\xff\xff\xff\xff\xff\xff\xff\xff\xff\x01", "\x01\x05\x01t\x00\x01z\x85\x80\x80\x80\x10",
		"\x01\x81\x80\x80\x80\x10\x01t\x01k", "\x01\x81\x80\x80\x80\x80\x80\x80\x80\x80\x01\x01t\x01k",
	} {
		wantRefusedBytes(t, b, api.ErrBytes)
	}
}
