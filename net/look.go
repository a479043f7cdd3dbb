package net

import (
	"iter"
	"slices"

	"wicket/api"
)

// Len is how many are on the way.
func (n *Net[T]) Len() int {
	if !n.there() {
		return 0
	}
	return len(n.way)
}

// At is the one at a place.
func (n *Net[T]) At(i int) (T, api.Errno) {
	var none T
	if !n.there() {
		return none, api.ErrNil
	}
	if i < 0 || i >= len(n.way) {
		return none, api.ErrNone
	}
	return n.way[i].thing, api.OK
}

// Sent is how many were sent in all.
func (n *Net[T]) Sent() int64 {
	if !n.there() {
		return 0
	}
	return n.sent
}

// All goes over the places, each with its thing, as they stand now.
func (n *Net[T]) All() iter.Seq2[int, T] {
	return over(n.now())
}

// now is what is on the way, in a list that later changes of the net leave as it is.
func (n *Net[T]) now() []*parcel[T] {
	if !n.there() {
		return nil
	}
	return slices.Clone(n.way)
}

// over goes over the places of l, each with its thing.
func over[T any](l []*parcel[T]) iter.Seq2[int, T] {
	return func(yield func(int, T) bool) {
		for place, p := range l {
			if !yield(place, p.thing) {
				return
			}
		}
	}
}
