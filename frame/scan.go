package frame

import (
	"bytes"
	"iter"

	"wicket/api"
)

// Scan tells the frames of b, how many bytes are good, and how what stands behind them ends.
func Scan(b []byte) ([]api.Frame, int, api.Errno) {
	var l []api.Frame
	good := 0
	for place, f := range frames(b) {
		l = append(l, f)
		good = place + Size(f.Body)
	}
	return l, good, ending(b[good:])
}

// All goes over the frames of b, each with its place, of the bytes as they are now.
func All(b []byte) iter.Seq2[int, api.Frame] {
	return frames(bytes.Clone(b))
}

// One is the frame that b is.
func One(b []byte) (api.Frame, api.Errno) {
	f, e := first(b)
	if e != api.OK || Size(f.Body) != len(b) {
		return api.Frame{}, api.ErrBytes
	}
	return f, api.OK
}

// frames goes over the frames of b itself; who hands it out keeps b from being changed.
func frames(b []byte) iter.Seq2[int, api.Frame] {
	return func(yield func(int, api.Frame) bool) {
		place := 0
	scan:
		for place < len(b) {
			f, e := first(b[place:])
			switch {
			case e != api.OK:
				break scan
			case !yield(place, f):
				break scan
			}
			place += Size(f.Body)
		}
	}
}

// first is the frame that is a beginning of b, its body in memory of its own; or how b ends, as there is none.
func first(b []byte) (api.Frame, api.Errno) {
	h, body, e := split(b)
	if e != api.OK {
		return api.Frame{}, e
	}
	kind := int(h[0])
	if h != header(kind, body) {
		return api.Frame{}, api.ErrBad
	}
	return api.Frame{Kind: kind, Body: bytes.Clone(body)}, api.OK
}

// ending tells how bytes end that no frame is a beginning of. Their sum need not be asked once more:
// if all bytes are there that their header says, it is wrong.
func ending(b []byte) api.Errno {
	if len(b) == 0 {
		return api.OK
	}
	if _, _, e := split(b); e != api.OK {
		return e
	}
	return api.ErrBad
}

// split tells the header at the beginning of b and, still a piece of b, the body that it says, whatever its sum is.
func split(b []byte) (h [headerSize]byte, body []byte, e api.Errno) {
	if copy(h[:], b) < headerSize {
		return h, nil, api.ErrTorn
	}
	n, rest := length(h), b[headerSize:]
	if n > api.MaxBody {
		return h, nil, api.ErrBad
	}
	if int(n) > len(rest) {
		return h, nil, api.ErrTorn
	}
	return h, rest[:n], api.OK
}
