package dedup

import (
	"iter"
	"maps"
	"slices"

	"wicket/api"
	"wicket/session"
)

// Live tells if such a session lives.
func (m *Machine) Live(session int64) bool {
	_, lives := m.state().sessions[session]
	return lives
}

// Token is the id of the living session with that token.
func (m *Machine) Token(token int64) (int64, api.Errno) {
	if !m.there() {
		return 0, api.ErrNil
	}
	for id, s := range m.sessions { // no two have one token: the order does not matter
		if s.Token() == token {
			return id, api.OK
		}
	}
	return 0, api.ErrNone
}

// Session is the living session with that id.
func (m *Machine) Session(id int64) (api.Living, api.Errno) {
	if !m.there() {
		return api.Living{}, api.ErrNil
	}
	if !m.Live(id) {
		return api.Living{}, api.ErrNone
	}
	return told(m.sessions[id]), api.OK
}

// All goes over the living sessions, by rising ids.
func (m *Machine) All() iter.Seq[api.Living] {
	return func(yield func(api.Living) bool) {
		for _, l := range m.living() {
			if !yield(l) {
				return
			}
		}
	}
}

// living is all living sessions as they stand now: commands that are done later change the sessions themselves.
func (m *Machine) living() []api.Living {
	var l []api.Living
	sessions := m.state().sessions
	for _, id := range slices.Sorted(maps.Keys(sessions)) {
		l = append(l, told(sessions[id]))
	}
	return l
}

func told(s *session.Session) api.Living {
	return api.Living{Id: s.Id(), Token: s.Token(), Mark: s.Mark(), Kept: s.Kept()}
}

// Rows goes over the rows, by their tables' names, then by their keys.
func (m *Machine) Rows() iter.Seq[api.Named] {
	return m.state().rows.All()
}

// Next is the next session's id.
func (m *Machine) Next() int64 {
	return m.state().next
}

// Quota is how many rows and bytes the database may have.
func (m *Machine) Quota() api.Quota {
	return m.state().rows.Quota()
}

// Window is how many numbers above a session's mark are taken.
func (m *Machine) Window() int {
	return m.state().window
}
