package table_test

import (
	"iter"
	"math/rand"
	"slices"
	"sort"
	"testing"

	"wicket/api"
	"wicket/table"
)

// plain is a table as the chapter's section 'Words' says it: values by keys, the keys sorted whenever they are told.
type plain map[string]string

func (p plain) keys() []string {
	var l []string
	for key := range p {
		l = append(l, key)
	}
	sort.Strings(l)
	return l
}

func (p plain) size() int {
	size := 0
	for key, value := range p {
		size += len(key) + len(value)
	}
	return size
}

// where is the rows whose keys are such, rising.
func (p plain) where(such func(key string) bool) []api.Row {
	var l []api.Row
	for _, key := range p.keys() {
		if such(key) {
			l = append(l, api.Row{Key: []byte(key), Value: []byte(p[key])})
		}
	}
	return l
}

func (p plain) copy() plain {
	c := plain{}
	for key, value := range p {
		c[key] = value
	}
	return c
}

// both is a table and what it must be.
type both struct {
	x *table.Table
	p plain
}

// someKey is a short key of few bytes, so that many meet; sometimes it is no key.
func someKey(r *rand.Rand) string {
	b := make([]byte, r.Intn(4))
	if r.Intn(20) == 0 {
		b = make([]byte, 62+r.Intn(5))
	}
	for i := range b {
		b[i] = "\x00a\x7f\xff"[r.Intn(4)]
	}
	return string(b)
}

func someValue(r *rand.Rand) string {
	b := make([]byte, r.Intn(5))
	if r.Intn(20) == 0 {
		b = make([]byte, 254+r.Intn(5))
	}
	r.Read(b)
	return string(b)
}

func mayBeKey(key string) bool     { return len(key) >= 1 && len(key) <= 64 }
func mayBeValue(value string) bool { return len(value) <= 256 }

// change does one step to both.
func (b both) change(t *testing.T, r *rand.Rand) {
	t.Helper()
	key, value := someKey(r), someValue(r)
	_, is := b.p[key]
	if r.Intn(3) == 0 {
		want := api.OK
		if !mayBeKey(key) {
			want = api.ErrArg
		}
		if was, e := b.x.Delete([]byte(key)); was != is || e != want {
			t.Fatalf("Delete(%.40q): %v, %v, not %v, %v", key, was, e, is, want)
		}
		delete(b.p, key)
		return
	}
	if !mayBeKey(key) || !mayBeValue(value) {
		if was, e := b.x.Put([]byte(key), []byte(value)); was || e != api.ErrArg {
			t.Fatalf("Put(%.40q, %.40q): %v, %v", key, value, was, e)
		}
		return
	}
	if was, e := b.x.Put([]byte(key), []byte(value)); was != is || e != api.OK {
		t.Fatalf("Put(%.40q, %.40q): %v, %v, not %v", key, value, was, e, is)
	}
	b.p[key] = value
}

// look holds all that is told of both against each other.
func (b both) look(t *testing.T, r *rand.Rand) {
	t.Helper()
	all := b.p.where(func(string) bool { return true })
	wantList(t, "At", seen(b.x), all)
	wantList(t, "All", listed(b.x.All()), all)
	if b.x.Len() != len(all) || b.x.Size() != b.p.size() {
		t.Fatalf("Len, Size: %d, %d, not %d, %d", b.x.Len(), b.x.Size(), len(all), b.p.size())
	}
	from, to, most := someKey(r), someKey(r), r.Intn(len(all)+4)-1
	if got, want := b.x.Rank([]byte(from)), len(b.p.where(func(key string) bool { return key < from })); got != want {
		t.Fatalf("Rank(%.40q): %d, not %d", from, got, want)
	}
	down := b.p.where(func(key string) bool { return to == "" || key < to })
	slices.Reverse(down)
	wantList(t, "Down", listed(b.x.Down([]byte(to))), down)
	scan := b.p.where(func(key string) bool { return key >= from && (to == "" || key < to) })
	wantList(t, "Scan", b.x.Scan([]byte(from), []byte(to), most), scan[:min(max(most, 0), len(scan))])
	want, is := b.p[from]
	got, e := b.x.Get([]byte(from))
	if string(got) != want || (e == api.OK) != is || (e == api.ErrArg) != !mayBeKey(from) {
		t.Fatalf("Get(%.40q): %.40q, %v, not %.40q, %v", from, got, e, want, is)
	}
}

func listed(over iter.Seq2[[]byte, []byte]) []api.Row {
	var l []api.Row
	for key, value := range over {
		l = append(l, api.Row{Key: key, Value: value})
	}
	return l
}

func wantList(t *testing.T, what string, got, want []api.Row) {
	t.Helper()
	same := func(a, b api.Row) bool { return string(a.Key) == string(b.Key) && string(a.Value) == string(b.Value) }
	if !slices.EqualFunc(got, want, same) {
		t.Fatalf("%s tells %.80q, not %.80q", what, texts(got), texts(want))
	}
}

// P7.1 to P7.4: any steps on several tables, copies of each other, against the words; rows that are gone over while all of
// them change stand as they did.
func TestAnySteps(t *testing.T) {
	for seed := range int64(60) {
		r := rand.New(rand.NewSource(700 + seed))
		l := []both{{madeOf(t), plain{}}}
		for range 250 {
			at := r.Intn(len(l))
			l[at].change(t, r)
			switch r.Intn(20) {
			case 0:
				c := both{l[at].x.Copy(), l[at].p.copy()}
				if len(l) < 6 {
					l = append(l, c)
				} else {
					l[r.Intn(len(l))] = c
				}
			case 1:
				changeByTheWay(t, r, l, at)
			case 2:
				empty(l[at].x)
				clear(l[at].p)
			}
			other := r.Intn(len(l))
			l[at].look(t, r)
			l[other].look(t, r)
			same := slices.EqualFunc(l[at].p.keys(), l[other].p.keys(), func(a, b string) bool { return a == b && l[at].p[a] == l[other].p[b] })
			wantSame(t, "two of them", l[at].x, l[other].x, same)
		}
	}
}

// changeByTheWay goes over one table, up or down, while all of them change, and leaves it sometimes.
func changeByTheWay(t *testing.T, r *rand.Rand, l []both, at int) {
	t.Helper()
	want := l[at].p.where(func(string) bool { return true })
	over := l[at].x.All()
	if r.Intn(2) == 0 {
		slices.Reverse(want)
		over = l[at].x.Down(nil)
	}
	most := r.Intn(len(want) + 4)
	var got []api.Row
	for key, value := range over {
		got = append(got, api.Row{Key: key, Value: value})
		l[at].change(t, r)
		l[r.Intn(len(l))].change(t, r)
		if len(got) > most {
			break
		}
	}
	wantList(t, "going over by the way", got, want[:min(most+1, len(want))])
}
