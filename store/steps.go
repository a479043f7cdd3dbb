package store

import (
	"wicket/api"
	"wicket/command"
	"wicket/snap"
	"wicket/wal"
)

// Write appends commands to the log, as many as there is room for.
func (s *Store) Write(commands ...api.Command) (int, api.Errno) {
	if !s.there() {
		return 0, api.ErrNil
	}
	// Behind the greatest number that a snapshot may have, one more is below 0: layer 13 refuses it, as all that is too great.
	many, e := wal.Append(s.disk, s.written+1, commands...)
	for _, c := range commands[:many] {
		form, _ := command.Bytes(c) // which is there, as its record is
		s.ahead = append(s.ahead, form)
	}
	s.written += int64(many)
	return many, e
}

// Sync makes all that is written last.
func (s *Store) Sync() api.Errno {
	if !s.there() {
		return api.ErrNil
	}
	if e := s.disk.Sync(); e != api.OK {
		return e
	}
	s.lasting = s.written
	return api.OK
}

// Do does the next entry that lasts to the state.
func (s *Store) Do() (api.Done, api.Errno) {
	if !s.there() {
		return api.Done{}, api.ErrNil
	}
	if s.done == s.lasting {
		return api.Done{}, api.ErrNone
	}
	next := s.entry(0)
	reply, e := s.state.Do(next.Command)
	if e != api.OK {
		return api.Done{}, e
	}
	s.ahead[0] = nil // the list's memory outlives its being cut
	s.ahead = s.ahead[1:]
	s.done++
	return api.Done{Entry: next, Reply: reply}, api.OK
}

// Keep does the first so many of the steps by which the state is put down, up to the first one that is refused.
func (s *Store) Keep(steps int) api.Errno {
	if !s.there() {
		return api.ErrNil
	}
	all := s.keeping()
	if steps < 0 || steps > len(all) {
		return api.ErrArg
	}
	for _, step := range all[:steps] {
		if e := step(); e != api.OK {
			return e
		}
	}
	return api.OK
}

// keeping is Keep's steps, in order.
func (s *Store) keeping() []func() api.Errno {
	return []func() api.Errno{
		s.putDown,
		s.disk.Switch,
		func() api.Errno {
			_, e := wal.Cut(s.disk, s.done)
			return e
		},
	}
}

// putDown lays the state's snapshot into the spare place.
func (s *Store) putDown() api.Errno {
	b, e := snap.Put(s.state, s.done)
	if e != api.OK {
		return e
	}
	return s.disk.Put(b)
}

// entry is the one that stands so far behind the first that is not done; it is read anew each time, as it goes to a caller.
func (s *Store) entry(place int) api.Entry {
	c, _ := command.Read(s.ahead[place])
	return api.Entry{Number: s.done + 1 + int64(place), Command: c}
}

func (s *Store) there() bool {
	return s != nil && s.disk != nil
}
