package engine

import (
	"iter"
	"maps"
	"slices"

	"wicket/api"
)

// Quota is how many rows and bytes there may be.
func (e *Engine) Quota() api.Quota {
	if !e.there() {
		return api.Quota{}
	}
	return e.quota
}

// Len is how many rows there are.
func (e *Engine) Len() int {
	n := 0
	for _, t := range e.byName() {
		n += t.Len()
	}
	return n
}

// Size is how many bytes all keys and values have.
func (e *Engine) Size() int {
	size := 0
	for _, t := range e.byName() {
		size += t.Size()
	}
	return size
}

// Tables is the names of the tables that have rows, rising.
func (e *Engine) Tables() []string {
	return slices.Sorted(maps.Keys(e.byName()))
}

// All goes over the rows, by their tables' names, then by their keys.
func (e *Engine) All() iter.Seq[api.Named] {
	return func(yield func(api.Named) bool) {
		// Not asked for again by the way: a call gives the database another map.
		tables := e.byName()
		for _, name := range slices.Sorted(maps.Keys(tables)) {
			for key, value := range tables[name].All() {
				if !yield(api.Named{Table: name, Key: key, Value: value}) {
					return
				}
			}
		}
	}
}
