package message

import (
	"iter"

	"wicket/api"
)

// Each goes over the places of messages as they are now, each with its bytes; those are left out that may not be.
func Each(l ...api.Message) iter.Seq2[int, []byte] {
	// One that may not be stays a zero one here, which may not be either: so the places are those of l.
	now := make([]api.Message, len(l))
	for place, b := range written(l) {
		now[place], _ = Read(b) // it may be: these are its bytes
	}
	return written(now)
}

// written goes over the places of l, each with its bytes as they are at the time.
func written(l []api.Message) iter.Seq2[int, []byte] {
	return func(yield func(int, []byte) bool) {
		for place, m := range l {
			b, e := Bytes(m)
			if e == api.OK && !yield(place, b) {
				return
			}
		}
	}
}
