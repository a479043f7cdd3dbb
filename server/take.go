package server

import (
	"wicket/api"
	"wicket/calls"
	"wicket/message"
)

// nobody asked for an Expire.
const nobody = -1

// asked is a command that waits, and the client who asked for it.
type asked struct {
	client  int
	command api.Command
}

// read is the message of a call that only reads, and waits until so many entries are done.
type read struct {
	message api.Message
	entries int64
}

// Take takes a message of a client: what is told at once.
func (s *Server) Take(m api.Message) ([]api.Message, api.Errno) {
	if e := s.refusal(); e != api.OK {
		return nil, e
	}
	form, e := message.Bytes(m)
	if e != api.OK {
		return nil, api.OK
	}
	own, _ := message.Read(form) // in memory of its own, as what is handed in is not kept
	if take := taken()[own.Ask.Kind]; take != nil {
		return take(s, own), api.OK
	}
	return nil, api.OK
}

// taken are the commands that messages ask for, each with what is done when it is taken; one that tells asks for none.
func taken() map[api.CommandKind]func(*Server, api.Message) []api.Message {
	return map[api.CommandKind]func(*Server, api.Message) []api.Message{
		api.CommandOpen:  (*Server).queue,
		api.CommandCall:  (*Server).call,
		api.CommandClose: (*Server).queue,
	}
}

// queue lets a command wait; if there is no room, it is let go, and nobody is told.
func (s *Server) queue(m api.Message) []api.Message {
	s.wait(asked{client: m.Client, command: m.Ask})
	return nil
}

// wait lets a command wait behind the others, if there is room.
func (s *Server) wait(a asked) bool {
	select {
	case s.waiting <- a:
		return true
	default:
		return false
	}
}

func (s *Server) call(m api.Message) []api.Message {
	_, lives := s.heard[m.Ask.Session]
	if lives {
		s.heard[m.Ask.Session] = s.now
	}
	if !calls.Reads(m.Ask.Call) {
		return s.queue(m)
	}
	done, lasting, _ := s.store.Numbers()
	if !lives || done == lasting {
		return []api.Message{s.answer(m)}
	}
	if len(s.reads) < cap(s.waiting) {
		s.reads = append(s.reads, read{message: m, entries: lasting})
	}
	return nil
}

// answer is what a call that only reads is told of the state as it is.
func (s *Server) answer(m api.Message) api.Message {
	r := api.Reply{Kind: api.ReplyAnswered, Session: m.Ask.Session, Number: m.Ask.Number}
	b, e := s.store.Read(r.Session, m.Ask.Call)
	if e != api.OK { // ErrNone: the call was looked at when it was taken
		r.Kind = api.ReplyGone
	}
	r.Answer = b
	return tell(m.Client, r)
}

// tell is the message that tells a reply of the store's, which is one that may be, to a client that has asked.
func tell(client int, r api.Reply) api.Message {
	m, _ := message.Tell(client, r)
	return m
}
