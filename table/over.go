package table

import (
	"bytes"
	"iter"
	"slices"

	"wicket/api"
)

// All goes over all rows, rising.
func (t *Table) All() iter.Seq2[[]byte, []byte] {
	return func(yield func(key, value []byte) bool) {
		tell(slices.All(t.list()), yield)
	}
}

// Down goes over all rows whose keys are below to, falling.
func (t *Table) Down(to []byte) iter.Seq2[[]byte, []byte] {
	to = bytes.Clone(to)
	return func(yield func(key, value []byte) bool) {
		_, end := t.span(nil, to)
		tell(slices.Backward(t.first(end)), yield)
	}
}

// tell hands out copies of the rows' bytes till no more are wanted.
func tell(rows iter.Seq2[int, *api.Row], yield func(key, value []byte) bool) {
	for _, r := range rows {
		if !yield(bytes.Clone(r.Key), bytes.Clone(r.Value)) {
			return
		}
	}
}
