package calls_test

import (
	"testing"
	"unsafe"

	"wicket/api"
	"wicket/calls"
)

// spoil writes over bytes, and over the spare room behind them.
func spoil(b []byte) {
	b = b[:cap(b)]
	for i := range b {
		b[i] = '!'
	}
}

// room is bytes with spare room behind them.
func room(text string) []byte {
	return []byte(text + "....")[:len(text)]
}

func wantRoom(t *testing.T, what string, b []byte, text string) {
	t.Helper()
	if got := string(b[:len(text)+4]); got != text+"...." || len(b) != len(text) {
		t.Errorf("%s: what was handed in is %q now", what, got)
	}
}

func spoilCall(c api.Call) {
	ops := c.Ops[:cap(c.Ops)]
	for i := range ops {
		for _, b := range [][]byte{ops[i].Key, ops[i].Value, ops[i].Old, ops[i].To} {
			spoil(b)
		}
		ops[i] = api.Op{Kind: 7, Table: "!"}
	}
}

func spoilResult(r api.Result) {
	outs := r.Outs[:cap(r.Outs)]
	for i := range outs {
		spoil(outs[i].Value)
		rows := outs[i].Rows[:cap(outs[i].Rows)]
		for j := range rows {
			spoil(rows[j].Key)
			spoil(rows[j].Value)
			rows[j] = api.Row{Key: []byte("!")}
		}
		outs[i] = api.Out{Value: []byte("!")}
	}
}

// handed is a call with spare room in all its lists, and what tells whether it was changed.
func handed() (api.Call, func(*testing.T)) {
	key, value, old, from, to := room("k"), room("v"), room("o"), room("a"), room("z")
	ops := []api.Op{
		{Kind: api.Get, Table: "t", Key: key}, {Kind: api.Put, Table: "t", Key: key, Value: value}, {Kind: api.Delete, Table: "t", Key: key},
		{Kind: api.Swap, Table: "t", Key: key, Has: true, Old: old, Value: value}, {Kind: api.Scan, Table: "t", Key: from, To: to, Most: 5}, {Kind: 9, Table: "spare"},
	}
	return api.Call{Ops: ops[:5]}, func(t *testing.T) {
		t.Helper()
		for text, b := range map[string][]byte{"k": key, "v": value, "o": old, "a": from, "z": to} {
			wantRoom(t, "a call", b, text)
		}
		if plainText(api.Call{Ops: ops[:5]}) != handedText || ops[5].Kind != 9 || ops[5].Table != "spare" {
			t.Errorf("the ops are %v now", ops)
		}
	}
}

const handedText = "get t k; put t k v; delete t k; swap t k +o v; scan t a z 5"

func handedResult() (api.Result, func(*testing.T)) {
	value, key, next, inRow := room("v"), room("k"), room("l"), room("w")
	rows := []api.Row{{Key: key, Value: inRow}, {Key: next}, {Key: []byte("spare")}}
	outs := []api.Out{{Has: true, Value: value}, {Rows: rows[:2]}, {Value: []byte("spare")}}
	return api.Result{Outs: outs[:2]}, func(t *testing.T) {
		t.Helper()
		for text, b := range map[string][]byte{"v": value, "k": key, "l": next, "w": inRow} {
			wantRoom(t, "a result", b, text)
		}
		if plainResultForm(api.Result{Outs: outs[:2]}) != handedForm || string(outs[2].Value) != "spare" || string(rows[2].Key) != "spare" {
			t.Errorf("the outs are %v now", outs)
		}
	}
}

const handedForm = "\x00\x02\x01\x01v\x00\x00\x00\x02\x01k\x01w\x01l\x00"

// What is handed in is not changed, spare room included, and answers that are spoilt have none of it.
func TestHandedInIsNotChanged(t *testing.T) {
	c, unchanged := handed()
	other, otherUnchanged := handed()
	calls.Check(c)
	calls.Reads(c)
	b, _ := calls.Bytes(c)
	calls.Text(c)
	calls.Same(c, other)
	bytes := room(string(b))
	read, _ := calls.Read(bytes)
	spoilCall(read)
	wantRoom(t, "bytes", bytes, plainForm(c))
	spoil(b)
	unchanged(t)
	otherUnchanged(t)

	r, resultUnchanged := handedResult()
	otherResult, otherResultUnchanged := handedResult()
	b, _ = calls.Result(r)
	calls.Alike(r, otherResult)
	bytes = room(string(b))
	readResult, _ := calls.ReadResult(bytes)
	spoilResult(readResult)
	wantRoom(t, "bytes", bytes, handedForm)
	spoil(b)
	resultUnchanged(t)
	otherResultUnchanged(t)
}

// What is handed in is not changed where it is refused, either.
func TestRefusedIsNotChanged(t *testing.T) {
	c, unchanged := handed()
	wrong := api.Call{Ops: append(c.Ops[:5:5], api.Op{})}
	long := times(16, put("t", "k", a(256)))
	for _, c := range []api.Call{wrong, long} {
		calls.Check(c)
		calls.Reads(c)
		calls.Bytes(c)
		calls.Text(c)
	}
	unchanged(t)
	r, resultUnchanged := handedResult()
	r.Outs = append(r.Outs[:2:2], api.Out{Rows: []api.Row{{}}})
	calls.Result(r)
	resultUnchanged(t)
	for _, form := range append(someForms(), someResultForms()...) {
		b := room(form[:len(form)-1])
		calls.Read(b)
		calls.ReadResult(b)
		wantRoom(t, "bytes", b, form[:len(form)-1])
	}
}

// What is handed in is not kept: answers stay as they were, whatever becomes of it.
func TestHandedInIsNotKept(t *testing.T) {
	c, _ := handed()
	want := plainForm(c)
	form, _ := calls.Bytes(c)
	text, _ := calls.Text(c)
	spoilCall(c)
	if string(form) != want || text != handedText {
		t.Errorf("answers are % x, %q now", form, text)
	}
	b := room(want)
	read, _ := calls.Read(b)
	spoil(b)
	if plainText(read) != handedText {
		t.Errorf("the call is %q now", plainText(read))
	}
	r, _ := handedResult()
	form, _ = calls.Result(r)
	spoilResult(r)
	b = room(string(form))
	readResult, _ := calls.ReadResult(b)
	spoil(b)
	if string(form) != handedForm || plainResultForm(readResult) != handedForm {
		t.Errorf("answers are % x, %v now", form, readResult)
	}
}

// What is told is the caller's: no other answer has part of it, nor another part of the same answer.
func TestToldIsTheCallers(t *testing.T) {
	c, _ := handed()
	form, _ := calls.Bytes(c)
	again, _ := calls.Bytes(c)
	spoil(form)
	if string(again) != plainForm(c) {
		t.Errorf("the other form is % x now", again)
	}
	for _, read := range []func() (api.Call, api.Errno){func() (api.Call, api.Errno) { return calls.Read(again) }, func() (api.Call, api.Errno) { return calls.Parse(handedText) }} {
		first, _ := read()
		second, _ := read()
		for i := range first.Ops {
			for _, field := range []*[]byte{&first.Ops[i].Key, &first.Ops[i].Value, &first.Ops[i].Old, &first.Ops[i].To} {
				was := string(*field)
				spoil(*field)
				*field = []byte(was)
			}
		}
		if plainText(first) != handedText {
			t.Errorf("the call is %q now", plainText(first))
		}
		spoilCall(first)
		if plainText(second) != handedText {
			t.Errorf("the other call is %q now", plainText(second))
		}
	}
	wantResultsApart(t)
}

func wantResultsApart(t *testing.T) {
	t.Helper()
	first, _ := calls.ReadResult([]byte(handedForm))
	second, _ := calls.ReadResult([]byte(handedForm))
	for i := range first.Outs {
		fields := []*[]byte{&first.Outs[i].Value}
		for j := range first.Outs[i].Rows {
			fields = append(fields, &first.Outs[i].Rows[j].Key, &first.Outs[i].Rows[j].Value)
		}
		for _, field := range fields {
			was := string(*field)
			spoil(*field)
			*field = []byte(was)
		}
	}
	if plainResultForm(first) != handedForm {
		t.Errorf("the result is %v now", first)
	}
	spoilResult(first)
	if plainResultForm(second) != handedForm {
		t.Errorf("the other result is %v now", second)
	}
	form, _ := calls.Result(second)
	again, _ := calls.Result(second)
	spoil(form)
	if string(again) != handedForm {
		t.Errorf("the other form is % x now", again)
	}
}

// A table's name that is told is no piece of the text that was handed in.
func TestParsedTableIsNew(t *testing.T) {
	s := "get tt k"
	c, _ := calls.Parse(s)
	from, at := uintptr(unsafe.Pointer(unsafe.StringData(s))), uintptr(unsafe.Pointer(unsafe.StringData(c.Ops[0].Table)))
	if at >= from && at < from+uintptr(len(s)) {
		t.Error("the table's name is a piece of the text")
	}
}
