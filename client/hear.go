package client

import (
	"bytes"

	"wicket/api"
	"wicket/message"
	"wicket/window"
)

// Hear is what came of calls by a message, in the order of their ids.
func (k *Client) Hear(m api.Message) []api.Return {
	if !k.there() || m.Kind != api.MessageTell || m.Client != k.number || message.Check(m) != api.OK {
		return nil
	}
	if hear := heard()[m.Tell.Kind]; hear != nil {
		return hear(k, m.Tell)
	}
	return nil
}

// heard are the replies that change something, each with what it does.
func heard() map[api.ReplyKind]func(*Client, api.Reply) []api.Return {
	return map[api.ReplyKind]func(*Client, api.Reply) []api.Return{
		api.ReplyOpened:   (*Client).opened,
		api.ReplyAnswered: (*Client).answered,
		api.ReplyGone:     (*Client).gone,
		api.ReplyStale:    (*Client).stale,
	}
}

// opened begins a session, whose numbers begin anew.
func (k *Client) opened(r api.Reply) []api.Return {
	if k.session == 0 && r.Token == k.token {
		k.session = r.Session
		k.out, _ = window.New[call](k.size)
	}
	return nil
}

func (k *Client) answered(r api.Reply) []api.Return {
	return k.end(k.is(r), api.OutcomeResult, r.Answer)
}

func (k *Client) stale(r api.Reply) []api.Return {
	return k.end(k.is(r), api.OutcomeUnknown, nil)
}

func (k *Client) gone(r api.Reply) []api.Return {
	if r.Session != k.session {
		return nil
	}
	return k.lose()
}

// is says of a number of the session whether a reply is about its call.
func (k *Client) is(r api.Reply) func(int64) bool {
	return func(number int64) bool { return r.Session == k.session && r.Number == number }
}

// end lets the calls return whose numbers are some that return, and tells what came of them. They are gone over by rising
// numbers, so their ids rise too.
func (k *Client) end(returns func(int64) bool, what api.Outcome, answer []byte) []api.Return {
	var l []api.Return
	for number, c := range k.out.All() {
		if returns(number) {
			k.out.Back(number)
			l = append(l, api.Return{Id: c.id, Outcome: what, Answer: bytes.Clone(answer)})
		}
	}
	return l
}
