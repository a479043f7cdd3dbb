package snap

import (
	"wicket/api"
	"wicket/dedup"
	"wicket/wire"
)

// reader reads a body by layer 1's reader; where the bytes have not the form it gives up, so that what is put together of its
// methods has no errors to hand on.
type reader struct {
	from *wire.Reader
}

// snapshot reads all there is. Each part has one form, and a machine's state is told in one order: so if a machine may be made
// of what is read, the bytes are just its snapshot's.
func (r reader) snapshot() snapshot {
	done := r.signed()
	var q api.Quota
	q.Rows = r.number(api.MaxRows)
	q.Bytes = r.number(api.MaxSize)
	window := r.number(api.MaxWindow)
	nextId := r.signed()
	rows := list(r, api.MaxRows, reader.row)
	living := list(r, api.MaxSessions, reader.living)
	sure(done >= 0 && r.from.End() == api.OK, api.ErrBytes)
	m, e := dedup.Of(q, window, rows, nextId, living...)
	sure(e == api.OK, api.ErrBytes)
	return snapshot{machine: m, done: done}
}

func (r reader) row() api.Named {
	var row api.Named
	row.Table = string(r.bytes(api.MaxName))
	row.Key = r.bytes(api.MaxKey)
	row.Value = r.bytes(api.MaxValue)
	return row
}

func (r reader) living() api.Living {
	var l api.Living
	l.Id = r.signed()
	l.Token = r.signed()
	l.Mark = r.signed()
	l.Kept = list(r, api.MaxWindow, reader.kept)
	return l
}

// kept reads an answer, however long: a machine takes any bytes as one.
func (r reader) kept() api.Kept {
	var k api.Kept
	k.Number = r.signed()
	k.Answer = r.bytes(api.MaxBody)
	return k
}

// number reads a number that is at most so much; asked ahead of its being made an int, which has not room for each one.
func (r reader) number(most int) int {
	n := next(r, (*wire.Reader).Number)
	sure(n <= uint64(most), api.ErrBytes)
	return int(n)
}

func (r reader) signed() int64 {
	return next(r, (*wire.Reader).Signed)
}

// bytes reads bytes, at most so many.
func (r reader) bytes(most int) []byte {
	return next(r, func(from *wire.Reader) ([]byte, api.Errno) { return from.Bytes(most) })
}

// list reads a list of at most so many things.
func list[T any](r reader, most int, one func(reader) T) []T {
	return next(r, func(from *wire.Reader) ([]T, api.Errno) {
		return wire.Take(from, most, func(from *wire.Reader) (T, api.Errno) {
			return one(reader{from}), api.OK
		})
	})
}

// next reads one thing. Whatever layer 1 finds wrong, more than may be too, these bytes are no snapshot's.
func next[T any](r reader, one func(*wire.Reader) (T, api.Errno)) T {
	got, e := one(r.from)
	sure(e == api.OK, api.ErrBytes)
	return got
}
