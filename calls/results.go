package calls

import (
	"wicket/api"
	"wicket/names"
	"wicket/wire"
)

// Result is the result's form.
func Result(r api.Result) ([]byte, api.Errno) {
	return face(func() []byte { return resultForm(r) })
}

// ReadResult is the result whose form b is.
func ReadResult(b []byte) (api.Result, api.Errno) {
	return whole(b, reader.result)
}

func resultForm(r api.Result) []byte {
	abort := wire.Number(uint64(r.Abort))
	switch r.Abort {
	case api.AbortNone:
		sure(r.Place == 0 && 1 <= len(r.Outs) && len(r.Outs) <= api.MaxOps, api.ErrArg)
		return wire.Join(abort, forms(r.Outs, outForm))
	case api.AbortOther, api.AbortRows, api.AbortBytes:
		sure(0 <= r.Place && r.Place < api.MaxOps && len(r.Outs) == 0, api.ErrArg)
		return wire.Join(abort, wire.Number(uint64(r.Place)))
	}
	panic(api.ErrArg)
}

func outForm(o api.Out) []byte {
	sure(names.Value(o.Value) && len(o.Rows) <= api.MaxScan && rising(o.Rows), api.ErrArg)
	return wire.Join(wire.Flag(o.Has), wire.Bytes(o.Value), forms(o.Rows, rowForm))
}

func rowForm(row api.Row) []byte {
	sure(names.Key(row.Key) && names.Value(row.Value), api.ErrArg)
	return wire.Join(wire.Bytes(row.Key), wire.Bytes(row.Value))
}

func (r reader) result() api.Result {
	abort := api.Abort(r.number(int(api.AbortBytes)))
	if abort != api.AbortNone {
		return api.Result{Abort: abort, Place: r.number(api.MaxOps - 1)}
	}
	outs := list(r, api.MaxOps, reader.out)
	sure(len(outs) > 0, api.ErrBytes)
	return api.Result{Outs: outs}
}

func (r reader) out() api.Out {
	var o api.Out
	o.Has = r.flag()
	o.Value = r.bytes(api.MaxValue)
	o.Rows = list(r, api.MaxScan, reader.row)
	sure(rising(o.Rows), api.ErrBytes)
	return o
}

func (r reader) row() api.Row {
	var row api.Row
	row.Key = r.bytes(api.MaxKey)
	row.Value = r.bytes(api.MaxValue)
	sure(names.Key(row.Key), api.ErrBytes)
	return row
}

// rising: is each row's key above the one ahead?
func rising(rows []api.Row) bool {
	for i := 1; i < len(rows); i++ {
		if names.Cmp(rows[i-1].Key, rows[i].Key) >= 0 {
			return false
		}
	}
	return true
}
