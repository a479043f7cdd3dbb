package table_test

import (
	"testing"

	"wicket/api"
)

// spoil writes over bytes, and over the spare room behind them.
func spoil(b []byte) {
	b = b[:cap(b)]
	for i := range b {
		b[i] = '!'
	}
}

func spoilRows(l []api.Row) {
	l = l[:cap(l)]
	for i := range l {
		spoil(l[i].Key)
		spoil(l[i].Value)
		l[i] = api.Row{Key: []byte("!"), Value: []byte("!")}
	}
}

// room is bytes with spare room behind them.
func room(text string) []byte {
	return []byte(text + "....")[:len(text)]
}

func wantRoom(t *testing.T, what string, b []byte, text string) {
	t.Helper()
	if got := string(b[:len(text)+4]); got != text+"...." || len(b) != len(text) {
		t.Errorf("%s: what was handed in is %q now", what, got)
	}
}

// What is handed in is not kept: what becomes of it later, spare room included, is not to be seen.
func TestHandedInIsNotKept(t *testing.T) {
	list := append(make([]api.Row, 0, 4), api.Row{Key: room("b"), Value: room("1")}, api.Row{Key: room("d"), Value: room("")})
	x := madeOf(t, list...)
	spoilRows(list)
	wantRows(t, "behind New", x, "b=1 d=")

	for _, key := range []string{"b", "a", "c", "z"} {
		k, v := room(key), room("2")
		x.Put(k, v)
		spoil(k)
		spoil(v)
	}
	wantRows(t, "behind Put", x, "a=2 b=2 c=2 d= z=2")

	to := room("c")
	down := x.Down(to)
	spoil(to)
	wantGone(t, "Down of what was spoilt", down, "b=2 a=2")
	again := room("c")
	down = x.Down(again)
	for key, value := range down {
		spoil(again)
		spoil(key)
		spoil(value)
	}
	wantGone(t, "Down of what was spoilt by the way", down, "b=2 a=2")
}

// What is handed in is not changed, spare room included, by whatever is done then or later.
func TestHandedInIsNotChanged(t *testing.T) {
	key, value, later := room("b"), room("1"), api.Row{Key: room("x"), Value: room("y")}
	list := append(make([]api.Row, 0, 3), api.Row{Key: key, Value: value})
	behind := list[:2]
	behind[1] = later
	x := madeOf(t, list...)
	k, v, from, to := room("c"), room("2"), room("a"), room("d")
	x.Put(k, v)
	x.Get(k)
	x.Rank(k)
	spoilRows(x.Scan(from, to, 9))
	for got, had := range x.Down(to) {
		spoil(got)
		spoil(had)
	}
	got, _ := x.Get(k)
	spoil(got)
	x.Put(key, []byte("another"))
	x.Delete(k)
	x.Put(k, nil)
	empty(x)
	if len(list) != 1 || &list[0].Key[0] != &key[0] || &behind[1].Key[0] != &later.Key[0] {
		t.Error("the list that was handed in has other rows now")
	}
	for text, b := range map[string][]byte{"b": key, "1": value, "x": later.Key, "y": later.Value, "c": k, "2": v, "a": from, "d": to} {
		wantRoom(t, text, b, text)
	}
}

// What is told is the caller's: written over, spare room included, it changes nothing that is told later.
func TestAnswersAreTheCallers(t *testing.T) {
	const all = "a=11 b=22 c=33"
	x := made(t, all)
	c := x.Copy()
	for range 2 {
		for _, key := range []string{"a", "b", "c"} {
			v, _ := x.Get([]byte(key))
			spoil(v)
		}
		for place := range 3 {
			r, _ := x.At(place)
			spoil(r.Key)
			spoil(r.Value)
		}
		spoilRows(x.Scan(nil, nil, 9))
		spoilRows(x.Scan([]byte("b"), nil, 1))
		for key, value := range x.All() {
			spoil(key)
			spoil(value)
		}
		for key, value := range x.Down(nil) {
			spoil(key)
			spoil(value)
		}
		wantRows(t, "behind spoilt answers", x, all)
		wantGone(t, "All behind spoilt answers", x.All(), all)
		wantScan(t, x, "", "", 9, all)
		wantRows(t, "the copy behind spoilt answers", c, all)
	}
}

// Two answers share nothing, nor do the parts of one.
func TestAnswersAreApart(t *testing.T) {
	x := made(t, "a=11 b=22 c=33")
	first, second := x.Scan(nil, nil, 9), x.Scan(nil, nil, 9)
	at, _ := x.At(0)
	got, _ := x.Get([]byte("a"))
	var over []api.Row
	for key, value := range x.All() {
		over = append(over, api.Row{Key: key, Value: value})
	}
	spoilRows(first)
	wantText(t, "the second Scan", texts(second), "a=11 b=22 c=33")
	wantText(t, "At", texts([]api.Row{at}), "a=11")
	wantText(t, "Get", string(got), "11")
	wantText(t, "All", texts(over), "a=11 b=22 c=33")
	for i := range second {
		spoil(second[i].Key)
		wantText(t, "a value beside its spoilt key", string(second[i].Value), []string{"11", "22", "33"}[i])
		spoil(second[i].Value)
		if i+1 < len(second) {
			wantText(t, "the rows behind a spoilt one", texts(second[i+1:]), []string{"b=22 c=33", "c=33"}[i])
		}
	}
	spoil(at.Key)
	wantText(t, "At's value beside its spoilt key", string(at.Value), "11")
	for key, value := range x.All() {
		had := string(value)
		spoil(key)
		wantText(t, "All's value beside its spoilt key", string(value), had)
	}
}

func wantText(t *testing.T, what, got, want string) {
	t.Helper()
	if got != want {
		t.Errorf("%s: %q, not %q", what, got, want)
	}
}

// What is told while rows are gone over stays as it was told, whatever is put then.
func TestToldStaysAsItWas(t *testing.T) {
	x := made(t, "a=11 b=22 c=33")
	var over []api.Row
	for key, value := range x.All() {
		over = append(over, api.Row{Key: key, Value: value})
		x.Put(key, []byte("99"))
		x.Delete([]byte("c"))
	}
	l := x.Scan(nil, nil, 9)
	v, _ := x.Get([]byte("a"))
	x.Put([]byte("a"), []byte("00"))
	x.Put([]byte("b"), []byte("00"))
	wantText(t, "what All told", texts(over), "a=11 b=22 c=33")
	wantText(t, "what Scan told", texts(l), "a=99 b=99")
	wantText(t, "what Get told", string(v), "99")
}
