package server

import (
	"maps"
	"slices"

	"wicket/api"
	"wicket/command"
)

// Write writes the commands that wait, as many as there is room for.
func (s *Server) Write() (int, api.Errno) {
	if e := s.refusal(); e != api.OK {
		return 0, e
	}
	all := s.drain()
	var l []api.Command
	for _, a := range all {
		l = append(l, a.command)
	}
	_, _, written := s.store.Numbers()
	many, e := s.store.Write(l...)
	for i, a := range all[:many] {
		if a.client != nobody {
			s.who[written+1+int64(i)] = a.client
		}
	}
	for _, a := range all[many:] {
		s.wait(a) // in the order in which they waited; there is room, as none has come since
	}
	return many, e
}

// drain takes all commands that wait, as a channel can't be looked into.
func (s *Server) drain() []asked {
	var l []asked
	for range len(s.waiting) {
		l = append(l, <-s.waiting)
	}
	return l
}

// Sync makes all that is written last.
func (s *Server) Sync() api.Errno {
	if e := s.refusal(); e != api.OK {
		return e
	}
	return s.store.Sync()
}

// Do does the next entry that lasts: what is told of it, and what reads that waited for it are told.
func (s *Server) Do() ([]api.Message, api.Errno) {
	if e := s.refusal(); e != api.OK {
		return nil, e
	}
	did, e := s.store.Do()
	if e != api.OK {
		return nil, e
	}
	s.note(did)
	return append(s.reply(did), s.answers(did.Entry.Number)...), api.OK
}

// note keeps what is to be known of an entry that was done.
func (s *Server) note(did api.Done) {
	c := did.Entry.Command
	form, _ := command.Bytes(c) // which is there, as the entry was read from one
	s.past = append(s.past, form)
	switch c.Kind {
	case api.CommandOpen:
		s.open(did.Reply)
	case api.CommandExpire:
		delete(s.expiring, c.Session)
		fallthrough
	case api.CommandClose:
		delete(s.heard, c.Session)
	}
}

// open lets a session be heard that was opened; one that lived already was not.
func (s *Server) open(r api.Reply) {
	_, lives := s.heard[r.Session]
	if r.Kind == api.ReplyOpened && !lives {
		s.heard[r.Session] = s.now
	}
}

// reply is what the client is told who asked for an entry; none, if nobody did.
func (s *Server) reply(did api.Done) []api.Message {
	client, is := s.who[did.Entry.Number]
	if !is {
		return nil
	}
	delete(s.who, did.Entry.Number)
	return []api.Message{tell(client, did.Reply)}
}

// answers is what the reads are told that waited for no more entries than are done. They stand in front, as what lasts grows.
func (s *Server) answers(done int64) []api.Message {
	var l []api.Message
	for _, r := range s.reads {
		if r.entries <= done {
			l = append(l, s.answer(r.message))
		}
	}
	s.reads = slices.Delete(s.reads, 0, len(l))
	return l
}

// Keep does so many steps of those by which the state is put down.
func (s *Server) Keep(steps int) api.Errno {
	if e := s.refusal(); e != api.OK {
		return e
	}
	return s.store.Keep(steps)
}

// Tick lets time pass: how many sessions get an Expire.
func (s *Server) Tick(now int64) (int, api.Errno) {
	e := s.refusal()
	switch {
	case e == api.ErrNil:
		return 0, e
	case now < s.now || now > api.MaxTick: // ahead of being down
		return 0, api.ErrArg
	case e != api.OK:
		return 0, e
	}
	s.now = now
	return s.expire(func(session int64) bool { return now-s.heard[session] >= s.idle }), api.OK
}

// expire lets an Expire wait of each session that is late and has none, as long as there is room.
func (s *Server) expire(late func(int64) bool) int {
	many := 0
	for _, session := range slices.Sorted(maps.Keys(s.heard)) {
		if _, has := s.expiring[session]; has || !late(session) {
			continue
		}
		if s.wait(asked{client: nobody, command: api.Command{Kind: api.CommandExpire, Session: session}}) {
			s.expiring[session] = struct{}{}
			many++
		}
	}
	return many
}
