package calls

import (
	"strconv"
	"strings"

	"wicket/api"
	"wicket/names"
)

const (
	between = "; " // two ops' texts; neither stands in a word, as layer 5 writes bytes
	blank   = " "  // between two words

	isThere  = "+" // ahead of a Swap's Old, so that it is told from no Old at all
	notThere = "-"

	mostText = 3 * api.MaxCall // bytes of a text: each byte of a form takes three at most
)

var kindWords = [...]string{api.Get: "get", api.Put: "put", api.Delete: "delete", api.Swap: "swap", api.Scan: "scan"}

// Text is the call's text.
func Text(c api.Call) (string, api.Errno) {
	if e := Check(c); e != api.OK {
		return "", e
	}
	var ops []string
	for _, op := range c.Ops {
		ops = append(ops, opText(op))
	}
	return strings.Join(ops, between), api.OK
}

// Parse is the call whose text s is.
func Parse(s string) (api.Call, api.Errno) {
	if len(s) > mostText {
		return api.Call{}, api.ErrLong
	}
	return face(func() api.Call {
		var c api.Call
		for _, op := range strings.Split(s, between) {
			c.Ops = append(c.Ops, opOf(op))
		}
		sure(Check(c) == api.OK, api.ErrBytes)
		return c
	})
}

func opText(op api.Op) string {
	l := []string{kindWords[op.Kind], op.Table, names.Text(op.Key)}
	switch op.Kind {
	case api.Put:
		l = append(l, names.Text(op.Value))
	case api.Swap:
		l = append(l, oldText(op), names.Text(op.Value))
	case api.Scan:
		l = append(l, names.Text(op.To), strconv.Itoa(op.Most))
	}
	return strings.Join(l, blank)
}

func oldText(op api.Op) string {
	if op.Has {
		return isThere + names.Text(op.Old)
	}
	return notThere
}

// opOf is the op that a text says; whether it may be is not asked here.
func opOf(s string) api.Op {
	w := &words{strings.Split(s, blank)}
	op := api.Op{Kind: w.kind()}
	// A copy: a piece of s would keep all of it.
	op.Table = strings.Clone(w.next())
	op.Key = w.bytes()
	switch op.Kind {
	case api.Put:
		op.Value = w.bytes()
	case api.Swap:
		op.Has, op.Old = w.old()
		op.Value = w.bytes()
	case api.Scan:
		op.To = w.bytes()
		op.Most = w.number()
	}
	sure(len(w.left) == 0, api.ErrBytes)
	return op
}

// words are those of an op's text that are not read yet. What they do not say is given up.
type words struct {
	left []string
}

func (w *words) next() string {
	sure(len(w.left) > 0, api.ErrBytes)
	word := w.left[0]
	w.left = w.left[1:]
	return word
}

func (w *words) kind() api.OpKind {
	word := w.next()
	for kind := api.Get; kind <= api.Scan; kind++ {
		if kindWords[kind] == word {
			return kind
		}
	}
	panic(api.ErrBytes)
}

func (w *words) bytes() []byte {
	return bytesOf(w.next())
}

func (w *words) old() (has bool, old []byte) {
	word := w.next()
	if word == notThere {
		return false, nil
	}
	text, has := strings.CutPrefix(word, isThere)
	sure(has, api.ErrBytes)
	return true, bytesOf(text)
}

func (w *words) number() int {
	word := w.next()
	n, err := strconv.Atoi(word)
	// Atoi takes noughts and a plus ahead, too; a number has one text.
	sure(err == nil && strconv.Itoa(n) == word, api.ErrBytes)
	return n
}

func bytesOf(text string) []byte {
	b, e := names.Read(text)
	sure(e == api.OK, api.ErrBytes)
	return b
}
