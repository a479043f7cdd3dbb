package session

import "wicket/api"

// Id is the session's number.
func (s *Session) Id() int64 {
	if !s.there() {
		return 0
	}
	return s.id
}

// Token is what it was opened for.
func (s *Session) Token() int64 {
	if !s.there() {
		return 0
	}
	return s.token
}

// Window is how many numbers above the mark are taken.
func (s *Session) Window() int {
	if !s.there() {
		return 0
	}
	return s.window
}

// Mark is the number up to which no answers are kept any more.
func (s *Session) Mark() int64 {
	if !s.there() {
		return 0
	}
	return s.mark
}

// Kept is the answers, rising by number.
func (s *Session) Kept() []api.Kept {
	var l []api.Kept
	s.each(func(k api.Kept) { l = append(l, own(k)) })
	return l
}

// Size is how many bytes all answers have.
func (s *Session) Size() int {
	size := 0
	s.each(func(k api.Kept) { size += len(k.Answer) })
	return size
}

// each hands over the answers in rising order; of a session that is not there none.
func (s *Session) each(take func(k api.Kept)) {
	if s.there() {
		s.ring.each(s.mark, take)
	}
}
