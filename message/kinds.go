package message

import "wicket/api"

// field is the place of a number that a kind has, and the least that it may be.
type field struct {
	at    *int64
	least int64
}

// numbers are those that the message has, in the order of its bytes; none, if one of its kinds is none that may be.
func numbers(m *api.Message) []field {
	switch m.Kind {
	case api.MessageAsk:
		return asked(&m.Ask)
	case api.MessageTell:
		return told(&m.Tell)
	}
	return nil
}

func asked(c *api.Command) []field {
	switch c.Kind {
	case api.CommandOpen:
		return []field{{&c.Token, 1}}
	case api.CommandCall:
		return []field{{&c.Session, 1}, {&c.Number, 1}, {&c.Mark, 0}}
	case api.CommandClose:
		return []field{{&c.Session, 1}}
	}
	return nil
}

func told(r *api.Reply) []field {
	switch r.Kind {
	case api.ReplyOpened:
		return []field{{&r.Token, 1}, {&r.Session, 1}}
	case api.ReplyFull:
		return []field{{&r.Token, 1}}
	case api.ReplyGone:
		return []field{{&r.Session, 1}, {&r.Number, 0}}
	case api.ReplyAnswered, api.ReplyStale, api.ReplyAhead:
		return []field{{&r.Session, 1}, {&r.Number, 1}}
	case api.ReplyClosed:
		return []field{{&r.Session, 1}}
	}
	return nil
}

// calling: does the message have a call behind its numbers?
func calling(m api.Message) bool {
	return m.Kind == api.MessageAsk && m.Ask.Kind == api.CommandCall
}

// answering: does the message have an answer behind its numbers?
func answering(m api.Message) bool {
	return m.Kind == api.MessageTell && m.Tell.Kind == api.ReplyAnswered
}

// said is the kind of the command that the message asks for, or of the reply that it tells.
func said(m api.Message) int {
	if m.Kind == api.MessageAsk {
		return int(m.Ask.Kind)
	}
	return int(m.Tell.Kind)
}

// begun is a message with its kinds and its client alone.
func begun(kind api.MessageKind, client, says int) api.Message {
	m := api.Message{Kind: kind, Client: client}
	switch kind {
	case api.MessageAsk:
		m.Ask.Kind = api.CommandKind(says)
	case api.MessageTell:
		m.Tell.Kind = api.ReplyKind(says)
	}
	return m
}

// fits: are the message's kinds some that may be, are its client and its numbers as they ask, and is all else zero? What
// stands behind the numbers is not asked.
func fits(m api.Message) bool {
	all := numbers(&m)
	for _, n := range all {
		if *n.at < n.least {
			return false
		}
	}
	if calling(m) && m.Ask.Mark >= m.Ask.Number {
		return false
	}
	return len(all) > 0 && 0 <= m.Client && m.Client < api.MaxClients && Same(m, named(m))
}

// named is the message with the fields alone that its kinds name.
func named(m api.Message) api.Message {
	some := begun(m.Kind, m.Client, said(m))
	all := numbers(&m)
	for i, n := range numbers(&some) {
		*n.at = *all[i].at
	}
	switch {
	case calling(m):
		some.Ask.Call = m.Ask.Call
	case answering(m):
		some.Tell.Answer = m.Tell.Answer
	}
	return some
}
