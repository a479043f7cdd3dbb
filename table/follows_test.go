package table_test

import (
	"math/rand"
	"slices"
	"testing"

	"wicket/api"
	"wicket/table"
)

// some is a table of any few rows, put in any order.
func some(t *testing.T, r *rand.Rand) *table.Table {
	t.Helper()
	b := both{madeOf(t), plain{}}
	for range r.Intn(60) {
		b.change(t, r)
	}
	return b.x
}

// P7.5: Scan from nothing up to nothing with Len is all rows; so it is with one more, and with one fewer it lacks the last one.
func TestScanWithLenIsAll(t *testing.T) {
	r := rand.New(rand.NewSource(75))
	for range 300 {
		x := some(t, r)
		all := listed(x.All())
		wantList(t, "Scan with Len", x.Scan(nil, nil, x.Len()), all)
		wantList(t, "Scan with Len and 1", x.Scan(nil, nil, x.Len()+1), all)
		wantList(t, "Scan with Len less 1", x.Scan(nil, nil, x.Len()-1), all[:max(len(all)-1, 0)])
		wantSame(t, "New of Scan", madeOf(t, x.Scan(nil, nil, x.Len())...), x, true)
	}
}

// P7.5: of two halves at a key, whatever key: Scan up to it and Scan from it, one behind the other, are all.
func TestTwoHalvesAreAll(t *testing.T) {
	r := rand.New(rand.NewSource(76))
	for range 300 {
		x := some(t, r)
		all := listed(x.All())
		keys := [][]byte{[]byte(someKey(r)), []byte("\x00"), []byte("\xff\xff\xff\xff")}
		for _, row := range all {
			keys = append(keys, row.Key, append(slices.Clone(row.Key), 0))
		}
		for _, key := range keys {
			if len(key) == 0 { // No key, and as an end no end.
				continue
			}
			wantHalves(t, x, key, all)
		}
	}
}

func wantHalves(t *testing.T, x *table.Table, key []byte, all []api.Row) {
	t.Helper()
	below, from := x.Scan(nil, key, x.Len()), x.Scan(key, nil, x.Len())
	wantList(t, "one half behind the other", append(slices.Clone(below), from...), all)
	if rank := x.Rank(key); rank != len(below) {
		t.Errorf("Rank(%.40q): %d, and %d rows up to it", key, rank, len(below))
	}
	down := listed(x.Down(key))
	slices.Reverse(down)
	wantList(t, "Down turned round", down, below)
}

// P7.5: Rank of At's key is its place, and Get of it At's value.
func TestRankOfAtIsThePlace(t *testing.T) {
	r := rand.New(rand.NewSource(77))
	tables := []*table.Table{madeOf(t, manyRows(4096)...)}
	for range 300 {
		tables = append(tables, some(t, r))
	}
	for _, x := range tables {
		for place := range x.Len() {
			row, e := x.At(place)
			if got := x.Rank(row.Key); got != place || e != api.OK {
				t.Errorf("Rank of the key at %d: %d, %v", place, got, e)
			}
			wantGet(t, x, string(row.Key), string(row.Value))
		}
	}
}

// P7.5: Put of a new row makes Len one more, and Size its bytes more; Delete of it takes them back.
func TestPutOfANewRow(t *testing.T) {
	r := rand.New(rand.NewSource(78))
	news := 0
	for range 2000 {
		x := some(t, r)
		key, value := someKey(r), someValue(r)
		rows, size := x.Len(), x.Size()
		was, e := x.Put([]byte(key), []byte(value))
		if was || e != api.OK {
			continue
		}
		news++
		if x.Len() != rows+1 || x.Size() != size+len(key)+len(value) {
			t.Errorf("Len, Size behind Put(%.40q, %.40q): %d, %d; ahead of it %d, %d", key, value, x.Len(), x.Size(), rows, size)
		}
		wantDelete(t, x, key, true)
		if x.Len() != rows || x.Size() != size {
			t.Errorf("Len, Size behind Put and Delete of %.40q: %d, %d; ahead of it %d, %d", key, x.Len(), x.Size(), rows, size)
		}
	}
	if news < 500 {
		t.Errorf("%d new rows", news)
	}
}

// P7.5: as many rows as a database may have, put one by one.
func TestManyPuts(t *testing.T) {
	l := manyRows(api.MaxRows)
	if len(l) != api.MaxRows {
		t.Fatalf("%d rows", len(l))
	}
	x := madeOf(t)
	size := 0
	for i, at := range rand.New(rand.NewSource(79)).Perm(len(l)) {
		wantPut(t, x, string(l[at].Key), string(l[at].Value), false)
		size += len(l[at].Key) + len(l[at].Value)
		if x.Len() != i+1 || i%100 == 0 && x.Size() != size {
			t.Fatalf("Len, Size behind %d rows: %d, %d, not %d", i+1, x.Len(), x.Size(), size)
		}
	}
	wantList(t, "All", listed(x.All()), l)
	wantSame(t, "one by one and at once", x, madeOf(t, l...), true)
}
