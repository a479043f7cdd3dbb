package server

import (
	"wicket/api"
	"wicket/command"
	"wicket/dedup"
)

// At is how it stands.
func (s *Server) At() (api.ServerAt, api.Errno) {
	if e := s.refusal(); e != api.OK {
		return api.ServerAt{}, e
	}
	done, lasting, written := s.store.Numbers()
	return api.ServerAt{Done: done, Lasting: lasting, Written: written, Waiting: len(s.waiting), Reads: len(s.reads), Now: s.now}, api.OK
}

// Entries are those that were done since it came up, in order.
func (s *Server) Entries() []api.Entry {
	if s.refusal() == api.ErrNil {
		return nil
	}
	var l []api.Entry
	for i, form := range s.past {
		c, _ := command.Read(form)
		l = append(l, api.Entry{Number: s.before + 1 + int64(i), Command: c})
	}
	return l
}

// State is a copy of the state.
func (s *Server) State() *dedup.Machine {
	if s.refusal() != api.OK {
		return nil
	}
	return s.store.State()
}
