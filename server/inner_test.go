package server

import (
	"testing"

	"wicket/api"
	"wicket/command"
	"wicket/disk"
)

// some is a server that has taken all these messages of the client 3, and written what it has room for.
func some(t *testing.T, texts ...string) *Server {
	t.Helper()
	d, _ := disk.New(1000)
	s, e := New(d, api.Config{Quota: api.Quota{Rows: 9, Bytes: 900}, Window: 4, Queue: 9, Wait: 9, Timeout: 5, Idle: 5, Log: 1000}, 0)
	if e != api.OK {
		t.Fatal(e)
	}
	for _, text := range texts {
		c, e := command.Parse(text)
		if e != api.OK {
			t.Fatal(text)
		}
		s.Take(api.Message{Kind: api.MessageAsk, Client: 3, Ask: c})
	}
	s.Write()
	s.Sync()
	return s
}

// What is done is not held any longer, but for the entries that are told: neither who asked, nor reads, in their list's memory
// either, nor sessions that live no more.
func TestDoneIsNotHeld(t *testing.T) {
	s := some(t, "open 5", "open 6", "close 1")
	s.Do()
	for range 3 {
		s.Take(api.Message{Kind: api.MessageAsk, Ask: api.Command{Kind: api.CommandCall, Session: 1, Number: 1, Call: api.Call{Ops: []api.Op{{Kind: api.Get, Table: "t", Key: []byte("k")}}}}})
	}
	all := s.reads
	if len(all) != 3 || len(s.who) != 2 || len(s.heard) != 1 {
		t.Fatalf("%d reads, %d asked, %d live", len(all), len(s.who), len(s.heard))
	}
	s.Do()
	s.Do()
	s.Tick(5)
	if len(s.expiring) != 1 {
		t.Errorf("%d expire", len(s.expiring))
	}
	s.Write()
	s.Sync()
	s.Do()
	if len(s.reads) != 0 || len(s.who) != 0 || len(s.heard) != 0 || len(s.expiring) != 0 || len(s.past) != 4 {
		t.Errorf("held: %d reads, %d asked, %d live, %d expire, %d are past", len(s.reads), len(s.who), len(s.heard), len(s.expiring), len(s.past))
	}
	for _, r := range all {
		if r.entries != 0 || r.message.Ask.Call.Ops != nil {
			t.Errorf("held: %v", r)
		}
	}
}

// A stop takes what is in memory.
func TestStopTakesWhatIsInMemory(t *testing.T) {
	s := some(t, "open 5", "close 1", "open 7")
	s.Do()
	s.Take(api.Message{Kind: api.MessageAsk, Ask: api.Command{Kind: api.CommandOpen, Token: 9}})
	s.Stop(0)
	if s.store != nil || s.disk != nil || s.waiting != nil || s.who != nil || s.reads != nil || s.heard != nil || s.expiring != nil {
		t.Errorf("held: %v", s)
	}
}
