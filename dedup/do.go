package dedup

import (
	"wicket/api"
	"wicket/calls"
	"wicket/command"
)

// Do does the command, and answers what is told of it.
func (m *Machine) Do(c api.Command) (api.Reply, api.Errno) {
	if !m.there() {
		return api.Reply{}, api.ErrNil
	}
	if command.Check(c) != api.OK {
		return api.Reply{}, api.ErrArg
	}
	var r api.Reply
	switch c.Kind {
	case api.CommandOpen:
		r = m.open(c.Token)
	case api.CommandCall:
		r = m.call(c)
	case api.CommandClose, api.CommandExpire:
		r = m.end(c.Session)
	}
	return r, api.OK
}

// Read is the result's bytes of a call that only reads, and changes nothing.
func (m *Machine) Read(c api.Call) ([]byte, api.Errno) {
	r, errno := m.state().rows.Look(c)
	switch errno {
	case api.OK:
		return calls.Result(r)
	case api.ErrNil:
		return nil, api.ErrNil
	}
	return nil, api.ErrArg // of one that is too long as well: no call that only reads is
}

func (m *Machine) open(token int64) api.Reply {
	id, errno := m.Token(token)
	if errno == api.OK {
		return api.Reply{Kind: api.ReplyOpened, Token: token, Session: id}
	}
	if len(m.sessions) >= api.MaxSessions || m.next == lastNext {
		return api.Reply{Kind: api.ReplyFull, Token: token}
	}
	id = m.next
	m.add(api.Living{Id: id, Token: token})
	m.next++
	return api.Reply{Kind: api.ReplyOpened, Token: token, Session: id}
}

func (m *Machine) call(c api.Command) api.Reply {
	r := api.Reply{Kind: api.ReplyGone, Session: c.Session, Number: c.Number}
	s, lives := m.sessions[c.Session]
	if !lives {
		return r
	}
	verdict, answer, _ := s.Come(c.Number, c.Mark)
	switch verdict {
	case api.VerdictStale:
		r.Kind = api.ReplyStale
	case api.VerdictAhead:
		r.Kind = api.ReplyAhead
	case api.VerdictNew:
		answer = m.done(c.Call)
		s.Put(c.Number, answer)
		fallthrough
	case api.VerdictAnswered:
		r.Kind, r.Answer = api.ReplyAnswered, answer
	}
	return r
}

// done does a call that layer 6 takes, which no database refuses, and tells its result's bytes.
func (d database) done(c api.Call) []byte {
	r, _ := d.rows.Do(c)
	answer, _ := calls.Result(r)
	return answer
}

func (m *Machine) end(id int64) api.Reply {
	if !m.Live(id) {
		return api.Reply{Kind: api.ReplyGone, Session: id}
	}
	delete(m.sessions, id)
	return api.Reply{Kind: api.ReplyClosed, Session: id}
}
