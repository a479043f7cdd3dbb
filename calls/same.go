package calls

import (
	"bytes"
	"slices"

	"wicket/api"
)

// Same: are all fields of both calls the same, whether they may be or not?
func Same(a, b api.Call) bool {
	return slices.EqualFunc(a.Ops, b.Ops, sameOp)
}

// Alike: are all fields of both results the same, whether they may be or not?
func Alike(a, b api.Result) bool {
	return a.Abort == b.Abort && a.Place == b.Place && slices.EqualFunc(a.Outs, b.Outs, sameOut)
}

func sameOp(a, b api.Op) bool {
	return a.Kind == b.Kind && a.Table == b.Table && a.Has == b.Has && a.Most == b.Most &&
		bytes.Equal(a.Key, b.Key) && bytes.Equal(a.Value, b.Value) && bytes.Equal(a.Old, b.Old) && bytes.Equal(a.To, b.To)
}

func sameOut(a, b api.Out) bool {
	return a.Has == b.Has && bytes.Equal(a.Value, b.Value) && slices.EqualFunc(a.Rows, b.Rows, sameRow)
}

func sameRow(a, b api.Row) bool {
	return bytes.Equal(a.Key, b.Key) && bytes.Equal(a.Value, b.Value)
}
