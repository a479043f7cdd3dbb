package names

import "cmp"

// Cmp tells by -1, 0, 1 whether a is below b, the same, above.
func Cmp(a, b []byte) int {
	order := cmp.Compare(len(a), len(b))
pairs:
	for i := range min(len(a), len(b)) {
		switch c := cmp.Compare(a[i], b[i]); c {
		case -1, 1:
			order = c
			break pairs
		}
	}
	return order
}

// In: is key in the range from from up to to?
func In(key, from, to []byte) bool {
	return Cmp(key, from) >= 0 && endsBehind(to, key)
}

// Next is the least bytes above key.
func Next(key []byte) []byte {
	return copied(key, 0)
}

// Behind is the least bytes above all that begin with front, if there are any.
func Behind(front []byte) ([]byte, bool) {
	last := len(front) - 1
full:
	for ; last >= 0; last-- {
		switch c := front[last]; c {
		case 255:
			continue full
		default:
			return copied(front[:last], c+1), true
		}
	}
	return nil, false
}

// Meet is the range of what is in both ranges, if something is.
func Meet(from, to, from2, to2 []byte) (a, b []byte, some bool) {
	begin, end := laterBegin(from, from2), earlierEnd(to, to2)
	// A range that does not even have its beginning has nothing.
	if !In(begin, begin, end) {
		return nil, nil, false
	}
	return copied(begin), copied(end), true
}

func laterBegin(from, from2 []byte) []byte {
	if Cmp(from, from2) < 0 {
		return from2
	}
	return from
}

func earlierEnd(to, to2 []byte) []byte {
	if len(to) > 0 && endsBehind(to2, to) {
		return to
	}
	return to2
}

// endsBehind: is key below the end to? An end without bytes is above all.
func endsBehind(to, key []byte) bool {
	return len(to) == 0 || Cmp(key, to) < 0
}

// copied is b and more in memory of its own, cut at its capacity: what its owner puts behind it goes elsewhere.
func copied(b []byte, more ...byte) []byte {
	c := append(append([]byte(nil), b...), more...)
	return c[:len(c):len(c)]
}
