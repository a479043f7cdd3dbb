package timers

import (
	"iter"

	"wicket/api"
)

// At is the tick of a name.
func (t *Timers) At(name int64) (int64, api.Errno) {
	one, e := t.find(name)
	if e != api.OK {
		return 0, e
	}
	return one.At, api.OK
}

// Next is the first one in order; it stays.
func (t *Timers) Next() (api.Due, api.Errno) {
	if !t.there() {
		return api.Due{}, api.ErrNil
	}
	one := t.first()
	if one == nil {
		return api.Due{}, api.ErrNone
	}
	return one.Due, api.OK
}

// Len is how many there are.
func (t *Timers) Len() int {
	if !t.there() {
		return 0
	}
	return len(t.heap)
}

// All tells all, in order. It empties a copy, so what is done to the timers by the way changes nothing of it.
func (t *Timers) All() iter.Seq[api.Due] {
	return func(yield func(api.Due) bool) {
		if !t.there() {
			return
		}
		for rest := t.heap.copy(); len(rest) > 0; {
			if !yield(rest.next()) {
				return
			}
		}
	}
}
