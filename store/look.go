package store

import (
	"wicket/api"
	"wicket/dedup"
)

// Numbers are how many entries are done, last, are written.
func (s *Store) Numbers() (done, lasting, written int64) {
	if !s.there() {
		return 0, 0, 0
	}
	return s.done, s.lasting, s.written
}

// State is a copy of the state.
func (s *Store) State() *dedup.Machine {
	if !s.there() {
		return nil
	}
	return s.state.Copy()
}

// Read is what a call that only reads says of the state, if the session lives there.
func (s *Store) Read(session int64, c api.Call) ([]byte, api.Errno) {
	if !s.there() {
		return nil, api.ErrNil
	}
	// Done ahead of asking for the session: a call that is wrong is refused, whether the session lives or not.
	b, e := s.state.Read(c)
	if e != api.OK {
		return nil, e
	}
	if !s.state.Live(session) {
		return nil, api.ErrNone
	}
	return b, api.OK
}

// Waiting are the entries that last and are not done.
func (s *Store) Waiting() []api.Entry {
	if !s.there() {
		return nil
	}
	var l []api.Entry
	for place := range int(s.lasting - s.done) {
		l = append(l, s.entry(place))
	}
	return l
}
