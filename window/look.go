package window

import "iter"

// Mark is the greatest number up to which all are back.
func (w *Window[T]) Mark() int64 {
	if !w.there() {
		return 0
	}
	return w.mark
}

// Last is the last number that was given out.
func (w *Window[T]) Last() int64 {
	if !w.there() {
		return 0
	}
	return w.last
}

// Len is how many are not back.
func (w *Window[T]) Len() int {
	many := 0
	for range w.All() {
		many++
	}
	return many
}

// Room is how many may be given out now.
func (w *Window[T]) Room() int {
	if !w.there() {
		return 0
	}
	return len(w.ring) - int(w.last-w.mark)
}

// All goes over those that are not back, rising, each with its thing.
func (w *Window[T]) All() iter.Seq2[int64, T] {
	return func(yield func(int64, T) bool) {
		// Gone over is a copy, so that it does not matter what is done by the way.
		c := w.Copy()
		for number := c.Mark() + 1; number <= c.Last(); number++ {
			if x := c.ring[c.place(number)]; x != nil && !yield(number, *x) {
				return
			}
		}
	}
}
