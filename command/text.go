package command

import (
	"strconv"
	"strings"

	"wicket/api"
	"wicket/calls"
)

const (
	blank = " " // between two words

	// mostWords is how many words a text has at most: a kind, its numbers, and a call's text, which has blanks of its own.
	mostWords = 1 + mostNumbers + 1
)

var kindWords = [...]string{api.CommandOpen: "open", api.CommandCall: "call", api.CommandClose: "close", api.CommandExpire: "expire"}

// Text is the command's text.
func Text(c api.Command) (string, api.Errno) {
	if Check(c) != api.OK {
		return "", api.ErrArg
	}
	l := []string{kindWords[c.Kind]}
	for _, place := range numbers(&c) {
		if place != nil {
			l = append(l, numberText(*place))
		}
	}
	if c.Kind == api.CommandCall {
		call, _ := calls.Text(c.Call) // it may be: it was checked
		l = append(l, call)
	}
	return strings.Join(l, blank), api.OK
}

// Parse is the command whose text s is.
func Parse(s string) (api.Command, api.Errno) {
	w := &words{strings.SplitN(s, blank, mostWords)}
	c, e := w.command()
	if e != api.OK || len(w.left) > 0 || Check(c) != api.OK {
		return api.Command{}, api.ErrBytes
	}
	return c, api.OK
}

func numberText(n int64) string {
	return strconv.FormatInt(n, 10)
}

// words are those of a command's text that are not read yet.
type words struct {
	left []string
}

// command is what the words say; whether it may be is not asked here.
func (w *words) command() (api.Command, api.Errno) {
	c := api.Command{Kind: w.kind()}
	if e := fill(&c, w.number); e != api.OK || c.Kind != api.CommandCall {
		return c, e
	}
	var e api.Errno
	c.Call, e = calls.Parse(w.next())
	return c, e
}

// next is the next word; where there is none it is one without a byte, which says nothing anywhere.
func (w *words) next() string {
	if len(w.left) == 0 {
		return ""
	}
	word := w.left[0]
	w.left = w.left[1:]
	return word
}

// kind is the kind that the next word says, 0 if it says none.
func (w *words) kind() api.CommandKind {
	word := w.next()
	for kind := api.CommandOpen; kind <= api.CommandExpire; kind++ {
		if kindWords[kind] == word {
			return kind
		}
	}
	return 0
}

func (w *words) number() (int64, api.Errno) {
	word := w.next()
	n, err := strconv.ParseInt(word, 10, 64)
	// ParseInt takes noughts and a plus ahead, too; a number has one text.
	if err != nil || numberText(n) != word {
		return 0, api.ErrBytes
	}
	return n, api.OK
}
