package command

import (
	"wicket/api"
	"wicket/calls"
	"wicket/wire"
)

// Bytes is the command's form.
func Bytes(c api.Command) ([]byte, api.Errno) {
	if !fits(c) {
		return nil, api.ErrArg
	}
	form := wire.Number(uint64(c.Kind))
	for _, place := range numbers(&c) {
		if place != nil {
			form = wire.Join(form, wire.Signed(*place))
		}
	}
	if c.Kind != api.CommandCall {
		return form, api.OK
	}
	call, e := calls.Bytes(c.Call)
	if e != api.OK {
		return nil, api.ErrArg
	}
	return wire.Join(form, wire.Bytes(call)), api.OK
}

// Read is the command whose form b is.
func Read(b []byte) (api.Command, api.Errno) {
	r := wire.Open(b)
	c, e := read(r)
	// Each part has one form, so what is read whole and may be has just these bytes as its form.
	if e != api.OK || r.End() != api.OK || Check(c) != api.OK {
		return api.Command{}, api.ErrBytes
	}
	return c, api.OK
}

// read is the command that stands there; whether it may be is not asked here.
func read(r *wire.Reader) (api.Command, api.Errno) {
	kind, e := r.Number()
	// Asked ahead of being made an int, which has not room for each number that bytes tell.
	if e != api.OK || kind > uint64(api.CommandExpire) {
		return api.Command{}, api.ErrBytes
	}
	c := api.Command{Kind: api.CommandKind(kind)}
	if e := fill(&c, r.Signed); e != api.OK || c.Kind != api.CommandCall {
		return c, e
	}
	call, e := r.Bytes(api.MaxCall)
	if e != api.OK {
		return c, e
	}
	c.Call, e = calls.Read(call)
	return c, e
}
