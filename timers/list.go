package timers

import (
	"cmp"
	"container/heap"

	"wicket/api"
)

// timer is a name with a tick, and where it stands in the heap: so it can be moved and taken out there.
type timer struct {
	api.Due
	place int
}

// list is a heap, of which container/heap has the order.
type list []*timer

// Len is how many there are.
func (l list) Len() int {
	return len(l)
}

// Less tells whether one is ahead of another in order. No two have one name, so the order leaves nothing open.
func (l list) Less(i, j int) bool {
	return cmp.Or(cmp.Compare(l[i].At, l[j].At), cmp.Compare(l[i].Name, l[j].Name)) < 0
}

// Swap lets two stand where the other one stood.
func (l list) Swap(i, j int) {
	l[i], l[j] = l[j], l[i]
	l[i].place, l[j].place = i, j
}

// Push puts one behind the others.
func (l *list) Push(x any) {
	one := x.(*timer)
	one.place = len(*l)
	*l = append(*l, one)
}

// Pop takes the last one out, and leaves nothing of it in the room behind the others.
func (l *list) Pop() any {
	last := len(*l) - 1
	one := (*l)[last]
	(*l)[last] = nil
	*l = (*l)[:last]
	return one
}

// next takes the first one in order out.
func (l *list) next() api.Due {
	return heap.Pop(l).(*timer).Due
}

// copy has timers of its own, in the same places.
func (l list) copy() list {
	c := make(list, len(l))
	for i, one := range l {
		own := *one
		c[i] = &own
	}
	return c
}
