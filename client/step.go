package client

import (
	"slices"

	"wicket/api"
	"wicket/message"
)

// Step is what is sent at a tick, in order.
func (k *Client) Step(now int64) ([]api.Message, api.Errno) {
	switch {
	case !k.there():
		return nil, api.ErrNil
	case now < k.now, now > api.MaxTick:
		return nil, api.ErrArg
	}
	k.now = now
	if k.session == 0 {
		return k.enter(), api.OK
	}
	k.give()
	return k.send(), api.OK
}

// enter asks for a session, if a call needs one and it is time. Without a session all calls that are open wait.
func (k *Client) enter() []api.Message {
	if len(k.waiting) == 0 || !k.asked.due(k.now, k.timeout) {
		return nil
	}
	k.asked = sent{true, k.now}
	return []api.Message{k.ask(api.Command{Kind: api.CommandOpen, Token: k.token})}
}

// give gives numbers to the calls that wait, as they were invoked, as long as there are any.
func (k *Client) give() {
	many := 0
giving:
	for _, c := range k.waiting {
		if _, e := k.out.Give(c); e != api.OK {
			break giving
		}
		many++
	}
	k.waiting = slices.Delete(k.waiting, 0, many)
}

// send sends the calls of which it is time.
func (k *Client) send() []api.Message {
	var l []api.Message
	for number, c := range k.out.All() {
		if !c.sent.due(k.now, k.timeout) {
			continue
		}
		c.sent = sent{true, k.now}
		k.out.Set(number, c)
		l = append(l, k.ask(api.Command{Kind: api.CommandCall, Session: k.session, Number: number, Mark: k.out.Mark(), Call: c.what}))
	}
	return l
}

// ask is the message that asks for a command, in memory of its own. The client asks for none that may not be: its token and
// its session are 1 or more, what is out is above the mark, and the call of it was checked when it was invoked.
func (k *Client) ask(c api.Command) api.Message {
	m, _ := message.Ask(k.number, c)
	return m
}

// Leave leaves the session, or the token with which it asked for one: what is sent, and what came of calls.
func (k *Client) Leave() ([]api.Message, []api.Return) {
	switch {
	case !k.there():
		return nil, nil
	case k.session > 0:
		closing := []api.Message{k.ask(api.Command{Kind: api.CommandClose, Session: k.session})}
		return closing, k.lose()
	case k.asked.was:
		k.renew()
	}
	return nil, nil
}

// lose is without the session: what of it had numbers is not known any more.
func (k *Client) lose() []api.Return {
	l := k.end(func(int64) bool { return true }, api.OutcomeUnknown, nil)
	k.session, k.out = 0, nil
	k.renew()
	return l
}

// renew takes a token that no client ever had, and has not asked with it.
func (k *Client) renew() {
	k.token += api.MaxClients
	k.asked = sent{}
}
