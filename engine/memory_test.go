package engine_test

import (
	"strings"
	"testing"
	"unsafe"

	"wicket/api"
)

// spoil writes over bytes, and over the spare room behind them.
func spoil(b []byte) {
	b = b[:cap(b)]
	for i := range b {
		b[i] = '!'
	}
}

func spoilNamed(l []api.Named) {
	l = l[:cap(l)]
	for i := range l {
		spoil(l[i].Key)
		spoil(l[i].Value)
		l[i] = api.Named{Table: "!", Key: []byte("!"), Value: []byte("!")}
	}
}

func spoilCall(c api.Call) {
	ops := c.Ops[:cap(c.Ops)]
	for i := range ops {
		for _, b := range [][]byte{ops[i].Key, ops[i].Value, ops[i].Old, ops[i].To} {
			spoil(b)
		}
		ops[i] = api.Op{Kind: 7, Table: "!"}
	}
}

func spoilResult(r api.Result) {
	outs := r.Outs[:cap(r.Outs)]
	for i := range outs {
		spoil(outs[i].Value)
		l := outs[i].Rows[:cap(outs[i].Rows)]
		for j := range l {
			spoil(l[j].Key)
			spoil(l[j].Value)
			l[j] = api.Row{Key: []byte("!"), Value: []byte("!")}
		}
		outs[i] = api.Out{Has: true, Value: []byte("!")}
	}
}

// room is bytes with spare room behind them.
func room(text string) []byte {
	return []byte(text + "....")[:len(text)]
}

// roomy is a call all of whose bytes have spare room behind them, and so have its ops.
func roomy(t *testing.T, text string) api.Call {
	t.Helper()
	ops := make([]api.Op, 0, 20)
	for _, op := range parsed(t, text).Ops {
		for _, field := range []*[]byte{&op.Key, &op.Value, &op.Old, &op.To} {
			*field = room(string(*field))
		}
		ops = append(ops, op)
	}
	return api.Call{Ops: ops}
}

// wantRoomy: is the call what it was, with its spare room?
func wantRoomy(t *testing.T, c api.Call, text string) {
	t.Helper()
	if written(c) != text {
		t.Errorf("the call %q is %q now", text, written(c))
	}
	for _, op := range c.Ops {
		for _, b := range [][]byte{op.Key, op.Value, op.Old, op.To} {
			if string(b[len(b):len(b)+4]) != "...." {
				t.Errorf("%q: what stands behind %q is %q now", text, b, b[len(b):len(b)+4])
			}
		}
	}
	for _, op := range c.Ops[len(c.Ops):cap(c.Ops)] {
		if op.Kind != 0 || op.Table != "" {
			t.Errorf("%q: behind the ops stands %v now", text, op)
		}
	}
}

// What is handed in is not kept: what becomes of it later, spare room included, is not to be seen.
func TestHandedInIsNotKept(t *testing.T) {
	l := append(make([]api.Named, 0, 5), api.Named{Table: "t", Key: room("b"), Value: room("1")}, api.Named{Table: "t", Key: room("d"), Value: room("")}, api.Named{Table: "u", Key: room("b"), Value: room("2")})
	e := madeOf(t, wide, l...)
	spoilNamed(l)
	wantRows(t, "behind New", e, "t/b=1 t/d= u/b=2")

	for _, x := range [][2]string{{"put t b 3; put t a 4; put v z 5", "t/a=4 t/b=3 t/d= u/b=2 v/z=5"}, {"swap t a +4 6; swap v y - 7; delete t d; scan t % z 9; get v z", "t/a=6 t/b=3 u/b=2 v/y=7 v/z=5"}} {
		c := roomy(t, x[0])
		o, tried, _ := e.Try(c)
		done, _ := e.Do(c)
		want := told(done)
		spoilCall(c)
		wantRows(t, "behind Do", e, x[1])
		wantRows(t, "what Try told", o, x[1])
		if told(done) != want || told(tried) != want {
			t.Errorf("results are %q, %q now, not %q", told(done), told(tried), want)
		}
	}
	c := roomy(t, "get t a; scan t % % 9")
	r, _ := e.Look(c)
	spoilCall(c)
	if told(r) != "+6; - a=6 b=3" {
		t.Errorf("what Look told is %q now", told(r))
	}
}

// What is handed in is not changed, spare room included, by whatever is done then or later.
func TestHandedInIsNotChanged(t *testing.T) {
	l := append(make([]api.Named, 0, 4), api.Named{Table: "t", Key: room("a"), Value: room("1")}, api.Named{Table: "t", Key: room("b"), Value: room("2")}, api.Named{Table: "u", Key: room("a"), Value: room("3")})
	e := madeOf(t, api.Quota{Rows: 4, Bytes: 20}, l...)
	var handed []api.Call
	texts := []string{
		"put t a 9; put t c 8", "delete t b; get t a; scan t a z 5", "swap t a +9 7; swap t b - 6; put v a 5", "swap t a +1 1", "put t c 12345678901234567890", "get t a; scan t % b 64", "delete u a; delete u a",
	}
	for _, text := range texts {
		c := roomy(t, text)
		handed = append(handed, c)
		o, tried, _ := e.Try(c)
		looked, _ := e.Look(c)
		done, _ := e.Do(c)
		spoilResult(tried)
		spoilResult(looked)
		spoilResult(done)
		o.Do(parsed(t, "put t a 0; put t b 0; delete u a"))
		for r := range e.All() {
			spoil(r.Key)
			spoil(r.Value)
		}
	}
	for i, c := range handed {
		wantRoomy(t, c, texts[i])
	}
	wantNamed(t, "what was handed in", l, rows("t/a=1 t/b=2 u/a=3"))
	for _, r := range l {
		if string(r.Key[:5]) != string(r.Key)+"...." || string(r.Value[:5]) != string(r.Value)+"...." {
			t.Errorf("behind a row that was handed in stands %q, %q now", r.Key[:5], r.Value[:5])
		}
	}
	if behind := l[:4][3]; behind.Table != "" || behind.Key != nil {
		t.Errorf("behind the rows that were handed in stands %v now", behind)
	}
}

// What is refused, and what is aborted, is not changed, either.
func TestRefusedIsNotChanged(t *testing.T) {
	e := made(t, api.Quota{Rows: 1, Bytes: 2}, "t/a=1")
	for _, text := range []string{"put t a 2; put t b 3", "put t a 23", "swap t a +9 1; get t a"} {
		c := roomy(t, text)
		e.Do(c)
		e.Try(c)
		e.Look(c)
		wantRoomy(t, c, text)
	}
	wrong := roomy(t, "put t a 2; get t a")
	wrong.Ops = append(wrong.Ops, api.Op{Kind: 9})
	e.Do(wrong)
	e.Try(wrong)
	e.Look(wrong)
	if wrong.Ops[2].Kind != 9 {
		t.Error("a call that was refused is another now")
	}
	wrong.Ops = wrong.Ops[:2]
	wrong.Ops[:3][2] = api.Op{}
	wantRoomy(t, wrong, "put t a 2; get t a")
	l := append(rows("t/b=1"), rows("t/a=1")...)
	wantRefused(t, wide, l, api.ErrArg)
	wantNamed(t, "rows that were refused", l, append(rows("t/b=1"), rows("t/a=1")...))
}

// What is told is the caller's: written over, spare room included, it changes nothing that is told later.
func TestAnswersAreTheCallers(t *testing.T) {
	const all = "t/a=11 t/b=22 u/a=33"
	e := made(t, wide, all)
	c := e.Copy()
	o, _, _ := e.Try(parsed(t, "get t a"))
	for range 2 {
		for _, text := range []string{"get t a; get u a; scan t % % 9", "scan t a % 1; scan t % % 9; get t b"} {
			looked, _ := e.Look(parsed(t, text))
			done, _ := e.Do(parsed(t, text))
			again, _ := e.Do(parsed(t, text))
			want := told(again)
			spoilResult(looked)
			spoilResult(done)
			if told(again) != want {
				t.Errorf("another answer is %q now, not %q", told(again), want)
			}
		}
		for r := range e.All() {
			spoil(r.Key)
			spoil(r.Value)
		}
		names := e.Tables()
		names = names[:cap(names)]
		for i := range names {
			names[i] = "!"
		}
		wantTables(t, e, "t u")
		wantRows(t, "behind spoilt answers", e, all)
		wantRows(t, "the copy behind spoilt answers", c, all)
		wantRows(t, "what Try told behind spoilt answers", o, all)
		wantDo(t, e, "get t a; scan t % % 9", "+11; - a=11 b=22")
	}
}

// Parts of one answer share nothing.
func TestPartsOfAnAnswerAreApart(t *testing.T) {
	const text = "get t a; get t a; scan t % % 9; scan t % % 9; put t a 44; get t a; scan t a b 1"
	want := []string{"+11", "+11", "- a=11 b=22", "- a=11 b=22", "+", "+44", "- a=44"}
	for spoilt := range want {
		r, _ := made(t, wide, "t/a=11 t/b=22").Do(parsed(t, text))
		spoilResult(api.Result{Outs: r.Outs[spoilt : spoilt+1 : spoilt+1]})
		for i, out := range r.Outs {
			if got := told(api.Result{Outs: []api.Out{out}}); i != spoilt && got != want[i] {
				t.Errorf("as the answer %d is spoilt, the answer %d is %q", spoilt, i, got)
			}
		}
	}
	r, _ := made(t, wide, "t/a=11 t/b=22").Do(parsed(t, text))
	rows := r.Outs[2].Rows
	spoil(rows[0].Key)
	if string(rows[0].Value) != "11" || string(rows[1].Key) != "b" {
		t.Errorf("rows beside a spoilt key: %q", rows)
	}
	for row := range made(t, wide, "t/a=11 t/b=22").All() {
		had := string(row.Value)
		spoil(row.Key)
		if string(row.Value) != had {
			t.Errorf("All's value beside its spoilt key: %q", row.Value)
		}
	}
}

// What is told stays as it was told, whatever is done then.
func TestToldStaysAsItWas(t *testing.T) {
	e := made(t, wide, "t/a=11 t/b=22")
	r, _ := e.Do(parsed(t, "get t a; scan t % % 9; put t a 33; get t a"))
	names := e.Tables()
	var over []api.Named
	for row := range e.All() {
		over = append(over, row)
		e.Do(parsed(t, "put t a 99; put t b 99; put s a 1"))
	}
	wantDo(t, e, "delete t a; delete t b", "+; +")
	if told(r) != "+11; - a=11 b=22; +; +33" || len(names) != 1 || names[0] != "t" {
		t.Errorf("what was told is %q, %q now", told(r), names)
	}
	wantNamed(t, "what All told", over, rows("t/a=33 t/b=22"))
}

// A name that is kept is no piece of the text that it was cut out of, which may be far greater.
func TestNamesAreNoPieces(t *testing.T) {
	text := strings.Repeat("t", 1<<16)
	e := madeOf(t, wide, api.Named{Table: text[:2], Key: []byte("a")})
	for _, name := range []string{text[:1], text[:2], text[:3]} {
		e.Do(call(api.Op{Kind: api.Put, Table: name, Key: []byte("a")}, api.Op{Kind: api.Put, Table: name, Key: []byte("b")}, api.Op{Kind: api.Delete, Table: name, Key: []byte("a")}))
	}
	wantTables(t, e, "t tt ttt")
	from := uintptr(unsafe.Pointer(unsafe.StringData(text)))
	for _, name := range e.Tables() {
		if at := uintptr(unsafe.Pointer(unsafe.StringData(name))); at >= from && at < from+uintptr(len(text)) {
			t.Errorf("the name %q is a piece of what was handed in", name)
		}
	}
}
