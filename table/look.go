package table

import (
	"sort"

	"wicket/api"
	"wicket/names"
)

// Len is how many rows there are.
func (t *Table) Len() int {
	if !t.there() {
		return 0
	}
	return len(t.rows)
}

// Size is how many bytes all keys and values have.
func (t *Table) Size() int {
	size := 0
	for _, r := range t.list() {
		size += len(r.Key) + len(r.Value)
	}
	return size
}

// Rank is how many rows have a key below key.
func (t *Table) Rank(key []byte) int {
	rows := t.list()
	return sort.Search(len(rows), func(i int) bool { return names.Cmp(rows[i].Key, key) >= 0 })
}

// At is the row ahead of which place rows stand.
func (t *Table) At(place int) (api.Row, api.Errno) {
	if !t.there() {
		return api.Row{}, api.ErrNil
	}
	if place < 0 || place >= len(t.rows) {
		return api.Row{}, api.ErrArg
	}
	return *ownRow(t.rows[place].Key, t.rows[place].Value), api.OK
}

// Scan is the first most rows whose keys are in the range.
func (t *Table) Scan(from, to []byte, most int) []api.Row {
	begin, end := t.span(from, to)
	end = begin + min(max(most, 0), end-begin)
	var l []api.Row
	for _, r := range t.list()[begin:end] {
		l = append(l, *ownRow(r.Key, r.Value))
	}
	return l
}

// span tells from which place on and below which one the rows of a range stand: the same place twice, if there are none.
func (t *Table) span(from, to []byte) (begin, end int) {
	begin, end = t.Rank(from), t.Len()
	if len(to) > 0 {
		end = max(begin, t.Rank(to))
	}
	return begin, end
}

// row is the span of the row of that key, as nothing else is from the key on and below the next one.
func (t *Table) row(key []byte) (begin, end int) {
	return t.span(key, names.Next(key))
}
