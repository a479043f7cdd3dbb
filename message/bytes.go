package message

import (
	"bytes"
	"math"

	"wicket/api"
	"wicket/calls"
	"wicket/wire"
)

// headSize is how many bytes stand ahead of the numbers: the message's kind, the client, the command's or the reply's kind.
const headSize = 3

// Bytes are the message's bytes.
func Bytes(m api.Message) ([]byte, api.Errno) {
	if !fits(m) {
		return nil, api.ErrArg
	}
	last, e := behind(m)
	if e != api.OK {
		return nil, api.ErrArg
	}
	b := []byte{byte(m.Kind), byte(m.Client), byte(said(m))}
	for _, n := range numbers(&m) {
		b = wire.Join(b, wire.Number(uint64(*n.at)))
	}
	return wire.Join(b, last), api.OK
}

// Read is the message whose bytes b are.
func Read(b []byte) (api.Message, api.Errno) {
	m, e := read(b)
	// Each part has one form, so what is read whole and may be has just these bytes.
	if e != api.OK || Check(m) != api.OK {
		return api.Message{}, api.ErrBytes
	}
	return m, api.OK
}

// behind are the bytes behind the message's numbers: its call's, its answer, or none.
func behind(m api.Message) ([]byte, api.Errno) {
	switch {
	case calling(m):
		return calls.Bytes(m.Ask.Call)
	case answering(m):
		_, e := calls.ReadResult(m.Tell.Answer)
		return m.Tell.Answer, e
	}
	return nil, api.OK
}

// read is the message that stands there; whether it may be is not asked here.
func read(b []byte) (api.Message, api.Errno) {
	if len(b) < headSize {
		return api.Message{}, api.ErrBytes
	}
	m := begun(api.MessageKind(b[0]), int(b[1]), int(b[2]))
	r := reader{wire.Open(b[headSize:]), b[headSize:]}
	if e := fill(&m, r.number); e != api.OK {
		return api.Message{}, e
	}
	// last writes into m, so it goes ahead of the return: within one, Go leaves open whether m is read before it or after it.
	if e := r.last(&m); e != api.OK {
		return api.Message{}, e
	}
	return m, api.OK
}

// fill sets the message's numbers to what next tells, one behind the other.
func fill(m *api.Message, next func() (int64, api.Errno)) api.Errno {
	for _, n := range numbers(m) {
		got, e := next()
		if e != api.OK {
			return e
		}
		*n.at = got
	}
	return api.OK
}

// reader is layer 1's reader, with the bytes that it is of: what goes up to the end has no length ahead of it that layer 1
// could read.
type reader struct {
	*wire.Reader
	all []byte
}

// number reads a number that has room as a signed one.
func (r reader) number() (int64, api.Errno) {
	n, e := r.Number()
	if e != api.OK || n > math.MaxInt64 {
		return 0, api.ErrBytes
	}
	return int64(n), api.OK
}

// last reads what stands behind the message's numbers, up to the end.
func (r reader) last(m *api.Message) api.Errno {
	rest := r.all[len(r.all)-r.Left():]
	switch {
	case calling(*m):
		var e api.Errno
		m.Ask.Call, e = calls.Read(rest)
		return e
	case answering(*m):
		m.Tell.Answer = bytes.Clone(rest)
		return api.OK
	}
	return r.End()
}
