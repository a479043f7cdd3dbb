package client

import "wicket/api"

// Session is the session's number, if there is one.
func (k *Client) Session() (int64, bool) {
	if !k.there() {
		return 0, false
	}
	return k.session, k.session > 0
}

// Token is the one with which it asks, or asked for its session.
func (k *Client) Token() int64 {
	if !k.there() {
		return 0
	}
	return k.token
}

// Mark is the greatest number up to which all calls of the session have returned.
func (k *Client) Mark() int64 {
	if !k.there() {
		return 0
	}
	return k.out.Mark()
}

// Open are the calls that are open, as they were invoked.
func (k *Client) Open() []api.Sent {
	if !k.there() {
		return nil
	}
	var l []api.Sent
	for number, c := range k.out.All() {
		l = append(l, api.Sent{Id: c.id, Number: number, At: c.sent.at})
	}
	for _, c := range k.waiting {
		l = append(l, api.Sent{Id: c.id})
	}
	return l
}

// Number is its own number.
func (k *Client) Number() int {
	if !k.there() {
		return 0
	}
	return k.number
}
