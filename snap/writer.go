package snap

import (
	"slices"

	"wicket/api"
	"wicket/dedup"
	"wicket/wire"
)

// writer puts together the form of a body that has at most so many bytes; of a longer one it gives up.
type writer struct {
	most int
}

func (w writer) body(m *dedup.Machine, done int64) []byte {
	q := m.Quota()
	b := wire.Join(
		wire.Signed(done),
		wire.Number(uint64(q.Rows)), wire.Number(uint64(q.Bytes)),
		wire.Number(uint64(m.Window())),
		wire.Signed(m.Next()),
		forms(w, slices.Collect(m.Rows()), writer.row),
		forms(w, slices.Collect(m.All()), writer.living),
	)
	sure(len(b) <= w.most, api.ErrLong)
	return b
}

func (w writer) row(r api.Named) []byte {
	return wire.Join(wire.Bytes([]byte(r.Table)), wire.Bytes(r.Key), wire.Bytes(r.Value))
}

func (w writer) living(l api.Living) []byte {
	return wire.Join(wire.Signed(l.Id), wire.Signed(l.Token), wire.Signed(l.Mark), forms(w, l.Kept, writer.kept))
}

func (w writer) kept(k api.Kept) []byte {
	return wire.Join(wire.Signed(k.Number), wire.Bytes(k.Answer))
}

// forms is the form of a list. Where the things' forms alone are too long, it gives up by the way: the answers that a machine
// keeps may be far more than a body has room for, and the rest of them need not be written.
func forms[T any](w writer, l []T, one func(writer, T) []byte) []byte {
	left := w.most
	b, e := wire.Put(l, func(thing T) []byte {
		form := one(w, thing)
		left -= len(form)
		sure(left >= 0, api.ErrLong)
		return form
	})
	sure(e == api.OK, e)
	return b
}
