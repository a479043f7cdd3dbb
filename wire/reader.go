package wire

import (
	"bytes"

	"wicket/api"
)

// Reader reads forms, one behind the other.
type Reader struct {
	open bool // tells a reader that Open made from a zero one
	left []byte
}

// Open is a reader at the beginning of these bytes, as they are now.
func Open(b []byte) *Reader {
	return &Reader{open: true, left: bytes.Clone(b)}
}

// Number reads a number.
func (r *Reader) Number() (uint64, api.Errno) {
	return whole(r, (*Reader).digits)
}

// Signed reads a signed number.
func (r *Reader) Signed() (int64, api.Errno) {
	n, e := r.Number()
	if n%2 == 1 {
		return -int64(n/2) - 1, e
	}
	return int64(n / 2), e
}

// Flag reads a flag.
func (r *Reader) Flag() (bool, api.Errno) {
	return whole(r, (*Reader).bit)
}

// Bytes reads bytes, at most so many.
func (r *Reader) Bytes(most int) ([]byte, api.Errno) {
	return whole(r, func(r *Reader) ([]byte, api.Errno) {
		many, e := r.count(most)
		if e != api.OK {
			return nil, e
		}
		if many > uint64(len(r.left)) {
			return nil, api.ErrBytes
		}
		return bytes.Clone(r.pass(int(many))), api.OK
	})
}

// Left is how many bytes there are behind where the reader is.
func (r *Reader) Left() int {
	if r == nil {
		return 0
	}
	return len(r.left)
}

// End is OK where no bytes are left.
func (r *Reader) End() api.Errno {
	if !r.there() {
		return api.ErrNil
	}
	if len(r.left) > 0 {
		return api.ErrBytes
	}
	return api.OK
}

// Take reads a list of at most so many things, each read by a function.
func Take[T any](r *Reader, most int, one func(*Reader) (T, api.Errno)) ([]T, api.Errno) {
	if one == nil {
		return nil, api.ErrNil
	}
	return whole(r, func(r *Reader) ([]T, api.Errno) {
		many, e := r.count(most)
		if e != api.OK {
			return nil, e
		}
		return things(r, many, one)
	})
}

// things reads so many things. Room is made as they come: how many there are to be is only what the bytes claim.
func things[T any](r *Reader, many uint64, one func(*Reader) (T, api.Errno)) ([]T, api.Errno) {
	var l []T
	for range many {
		thing, e := one(r)
		if e != api.OK {
			return nil, e
		}
		l = append(l, thing)
	}
	return l, api.OK
}

// whole reads by a function, wholly or not: beside an error the reader is back where it was.
func whole[T any](r *Reader, read func(*Reader) (T, api.Errno)) (T, api.Errno) {
	var none T
	if !r.there() {
		return none, api.ErrNil
	}
	was := *r
	got, e := read(r)
	if e != api.OK {
		*r = was
		return none, e
	}
	return got, api.OK
}

func (r *Reader) there() bool {
	return r != nil && r.open
}

// pass goes behind the next bytes, of which there are so many, and tells them.
func (r *Reader) pass(many int) []byte {
	passed := r.left[:many]
	r.left = r.left[many:]
	return passed
}

// digits reads a number's digits; a nought ends only the number 0, and the tenth digit is at most 1.
func (r *Reader) digits() (uint64, api.Errno) {
	var n uint64
wrong:
	for place, b := range r.left {
		switch {
		case place > 0 && b == 0:
			break wrong
		case place == lastPlace && b > 1:
			break wrong
		}
		n += uint64(b%base) << (place * digitBits)
		if b < base {
			r.pass(place + 1)
			return n, api.OK
		}
	}
	return 0, api.ErrBytes
}

func (r *Reader) bit() (bool, api.Errno) {
	if len(r.left) == 0 || r.left[0] > 1 {
		return false, api.ErrBytes
	}
	return r.pass(1)[0] == 1, api.OK
}

// count reads how many there are, at most so many.
func (r *Reader) count(most int) (uint64, api.Errno) {
	if most < 0 {
		return 0, api.ErrArg
	}
	many, e := r.digits()
	if e != api.OK {
		return 0, e
	}
	if many > uint64(most) {
		return 0, api.ErrLong
	}
	return many, api.OK
}
