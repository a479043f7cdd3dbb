package session

import "wicket/api"

// ring has each answer at its number's place, and the number 0, which is none, at the others. Numbers that are above
// one mark by a window at most have each a place of its own.
type ring [api.MaxWindow]api.Kept

func place(number int64) int {
	return int(number % api.MaxWindow)
}

// behind is the ring without the answers up to the mark.
func (r ring) behind(mark int64) ring {
	for i, k := range r {
		if k.Number <= mark {
			r[i] = api.Kept{}
		}
	}
	return r
}

// each hands over the answers, all of them above the mark, in rising order: that of their places from the mark's on.
func (r ring) each(mark int64, take func(k api.Kept)) {
	for i := range r {
		k := r[(place(mark)+1+i)%len(r)]
		if k.Number > 0 {
			take(k)
		}
	}
}
