package calls

import (
	"wicket/api"
	"wicket/wire"
)

// face answers what do makes; what is given up within it, by a panic with an error, is that error, with nothing beside it.
// A panic with something else is a fault of this package, and stays one.
func face[T any](do func() T) (got T, e api.Errno) {
	defer func() {
		if why := recover(); why != nil {
			e = why.(api.Errno)
		}
	}()
	return do(), api.OK
}

// sure gives up with that error, unless it is so.
func sure(so bool, why api.Errno) {
	if !so {
		panic(why)
	}
}

// forms is the form of a list, each thing's form told by a function, which may give up.
func forms[T any](l []T, one func(T) []byte) []byte {
	b, e := wire.Put(l, one)
	sure(e == api.OK, e)
	return b
}

// reader reads forms by layer 1's reader; where the bytes have none it gives up, so that what is put together of its
// methods has no errors to hand on.
type reader struct {
	from *wire.Reader
}

// whole is what one reads of the bytes, if they are nothing but that.
func whole[T any](b []byte, one func(reader) T) (T, api.Errno) {
	return face(func() T {
		r := reader{wire.Open(b)}
		got := one(r)
		sure(r.from.End() == api.OK, api.ErrBytes)
		return got
	})
}

// next reads one thing. Whatever layer 1 finds wrong, more than may be too, these bytes are no form of what may be.
func next[T any](r reader, one func(*wire.Reader) (T, api.Errno)) T {
	got, e := one(r.from)
	sure(e == api.OK, api.ErrBytes)
	return got
}

// list reads a list of at most so many things.
func list[T any](r reader, most int, one func(reader) T) []T {
	return next(r, func(from *wire.Reader) ([]T, api.Errno) {
		return wire.Take(from, most, func(from *wire.Reader) (T, api.Errno) {
			return one(reader{from}), api.OK
		})
	})
}

// number reads a number that is at most so much.
func (r reader) number(most int) int {
	n := next(r, (*wire.Reader).Number)
	sure(n <= uint64(most), api.ErrBytes)
	return int(n)
}

func (r reader) flag() bool {
	return next(r, (*wire.Reader).Flag)
}

// bytes reads bytes, at most so many.
func (r reader) bytes(most int) []byte {
	return next(r, func(from *wire.Reader) ([]byte, api.Errno) { return from.Bytes(most) })
}
