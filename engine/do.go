package engine

import (
	"bytes"
	"maps"

	"wicket/api"
	"wicket/calls"
	"wicket/table"
)

// Do does the call, wholly or not at all.
func (e *Engine) Do(c api.Call) (api.Result, api.Errno) {
	behind, r, errno := e.Try(c)
	if errno == api.OK {
		e.tables = behind.tables
	}
	return r, errno
}

// Look is what Do would answer to a call that only reads.
func (e *Engine) Look(c api.Call) (api.Result, api.Errno) {
	if errno := e.refuses(c); errno != api.OK {
		return api.Result{}, errno
	}
	if !calls.Reads(c) {
		return api.Result{}, api.ErrArg
	}
	_, r := e.behind(c)
	return r, api.OK
}

// Try is the database that this one would be behind the call, and the result.
func (e *Engine) Try(c api.Call) (*Engine, api.Result, api.Errno) {
	if errno := e.refuses(c); errno != api.OK {
		return nil, api.Result{}, errno
	}
	behind, r := e.behind(c)
	return behind, r, api.OK
}

func (e *Engine) refuses(c api.Call) api.Errno {
	if !e.there() {
		return api.ErrNil
	}
	return calls.Check(c)
}

// behind does the ops to a draft. An op that fails panics with the reason; then the draft is let go, and the ops that were
// answered are those ahead of it.
func (e *Engine) behind(c api.Call) (o *Engine, r api.Result) {
	defer func() {
		if why := recover(); why != nil {
			o, r = e.Copy(), api.Result{Abort: why.(api.Abort), Place: len(r.Outs)}
		}
	}()
	draft := &Engine{quota: e.quota, tables: maps.Clone(e.tables)}
	for _, op := range c.Ops {
		r.Outs = append(r.Outs, draft.op(op))
	}
	return draft, r
}

// op does one op to a draft.
func (e *Engine) op(op api.Op) api.Out {
	switch op.Kind {
	case api.Get:
		return e.get(op)
	case api.Swap:
		sure(meets(e.get(op), op), api.AbortOther)
		fallthrough
	case api.Put:
		return e.put(op)
	case api.Delete:
		return e.remove(op)
	case api.Scan:
		return e.scan(op)
	}
	return api.Out{} // Of no sixth kind: such a call may not be.
}

func (e *Engine) get(op api.Op) api.Out {
	value, errno := e.tables[op.Table].Get(op.Key)
	return api.Out{Has: errno == api.OK, Value: value}
}

// meets: is what was got what the Swap says?
func meets(got api.Out, op api.Op) bool {
	return got.Has == op.Has && bytes.Equal(got.Value, op.Old)
}

func (e *Engine) put(op api.Op) api.Out {
	t := e.tables[op.Table].Copy()
	if t == nil {
		t, _ = table.New()
	}
	was, _ := t.Put(op.Key, op.Value)
	e.stand(op.Table, t)
	why := e.above()
	sure(why == api.AbortNone, why)
	return api.Out{Has: was}
}

func (e *Engine) remove(op api.Op) api.Out {
	t := e.tables[op.Table].Copy()
	was, _ := t.Delete(op.Key)
	e.stand(op.Table, t)
	return api.Out{Has: was}
}

func (e *Engine) scan(op api.Op) api.Out {
	return api.Out{Rows: e.tables[op.Table].Scan(op.Key, op.To, op.Most)}
}

// sure gives the call up with that reason, unless it is so.
func sure(so bool, why api.Abort) {
	if !so {
		panic(why)
	}
}
