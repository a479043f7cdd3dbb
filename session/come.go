package session

import (
	"bytes"

	"wicket/api"
)

// Come says what is to be done with a number that comes with a mark.
func (s *Session) Come(number, mark int64) (api.Verdict, []byte, api.Errno) {
	switch {
	case !s.there():
		return 0, nil, api.ErrNil
	case mark < 0 || mark >= number: // one of them holds of each number below 1
		return 0, nil, api.ErrArg
	case number <= s.mark:
		return api.VerdictStale, nil, api.OK
	case mark > s.mark:
		s.mark, s.ring = mark, s.ring.behind(mark)
		fallthrough // the number is above the new mark, too
	default:
		v, answer := s.above(number)
		return v, answer, api.OK
	}
}

// Look says what is to be done with a number, and changes nothing: no session's mark is below 0.
func (s *Session) Look(number int64) (api.Verdict, []byte, api.Errno) {
	return s.Come(number, 0)
}

// above says what is to be done with a number above the mark.
func (s *Session) above(number int64) (api.Verdict, []byte) {
	k := s.ring[place(number)]
	switch {
	case k.Number == number:
		return api.VerdictAnswered, bytes.Clone(k.Answer)
	case number-s.mark > int64(s.window): // a sum of mark and window may not fit
		return api.VerdictAhead, nil
	}
	return api.VerdictNew, nil
}

// Put keeps an answer for a number.
func (s *Session) Put(number int64, answer []byte) api.Errno {
	v, _, e := s.Look(number)
	if e != api.OK {
		return e
	}
	switch v {
	case api.VerdictStale, api.VerdictAhead:
		return api.ErrNone
	case api.VerdictAnswered:
		return api.ErrFull
	}
	s.ring[place(number)] = own(api.Kept{Number: number, Answer: answer})
	return api.OK
}
