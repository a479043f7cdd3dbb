package store

import (
	"testing"

	"wicket/api"
	"wicket/command"
	"wicket/dedup"
	"wicket/disk"
)

// P14.4: a state that layer 12 puts down as no snapshot is that layer's error; nothing is put, and no other step is done. (Held to
// a state that is not there: one that is too long takes gigabytes.)
func TestKeepOfAStateWithoutSnapshot(t *testing.T) {
	for steps := range 4 {
		d, _ := disk.New(1000)
		d.Put([]byte("spare"))
		s := Store{disk: d, state: &dedup.Machine{}}
		want := api.ErrNil
		if steps == 0 {
			want = api.OK
		}
		if e := s.Keep(steps); e != want {
			t.Errorf("Keep(%d): %v", steps, e)
		}
		spare, _ := d.Spare()
		if _, has := d.Snapshot(); has || string(spare) != "spare" || d.Steps() != 1 {
			t.Errorf("Keep(%d): %v, %q, %d steps", steps, has, spare, d.Steps())
		}
	}
}

// What is done is not held any longer, also in the list's memory.
func TestDoneIsNotHeld(t *testing.T) {
	c, _ := command.Parse("open 5")
	d, _ := disk.New(1000)
	s, e := Open(d, api.Config{Quota: api.Quota{Rows: 1, Bytes: 1}, Window: 1, Queue: 1, Wait: 1, Timeout: 1, Idle: 1, Log: 1})
	if e != api.OK {
		t.Fatal(e)
	}
	s.Write(c, c, c)
	s.Sync()
	all := s.ahead
	s.Do()
	s.Do()
	if len(s.ahead) != 1 || all[0] != nil || all[1] != nil || all[2] == nil {
		t.Errorf("held: %v, of %v", s.ahead, all)
	}
}
