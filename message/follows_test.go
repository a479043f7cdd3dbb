package message_test

import (
	"math/rand"
	"slices"
	"strings"
	"testing"

	"wicket/api"
	"wicket/message"
)

// P15.4: Read of Bytes is the message; Bytes of what Read took are the bytes.
func TestWrittenIsRead(t *testing.T) {
	r := rand.New(rand.NewSource(155))
	for range 5000 {
		m := someMessage(r)
		b, e := message.Bytes(m)
		read, e2 := message.Read(b)
		if e != api.OK || e2 != api.OK || !same(read, m) || !message.Same(read, m) {
			t.Errorf("%s, % .60x: %v, %v", shortly(m), b, e, e2)
		}
		if again, e := message.Bytes(read); string(again) != string(b) || e != api.OK {
			t.Errorf("% .60x is % .60x, %v", b, again, e)
		}
	}
}

// P15.4: harmed bytes that are read are those of what was read.
func TestReadIsWritten(t *testing.T) {
	r := rand.New(rand.NewSource(156))
	others := 0
	for range 30000 {
		was := plainForm(someMessage(r))
		b := harmed(r, was)
		m, e := message.Read([]byte(b))
		if e != api.OK {
			continue
		}
		if again, e := message.Bytes(m); string(again) != b || e != api.OK {
			t.Errorf("% .60x is % .60x, %v", b, again, e)
		}
		if b != was {
			others++
		}
	}
	if others < 1000 {
		t.Errorf("%d others are read", others)
	}
}

// P15.4: no beginning of a message's bytes that is shorter is one, a Call's and an Answered's neither.
func TestNoBeginningIsAMessage(t *testing.T) {
	r := rand.New(rand.NewSource(157))
	var forms []string
	for range 5000 {
		b, _ := message.Bytes(someMessage(r))
		forms = append(forms, string(b))
		for at := max(0, len(b)-40); at < len(b); at++ {
			if m, e := message.Read(b[:at]); e != api.ErrBytes || !zero(m) {
				t.Errorf("%d bytes of % .60x: %s, %v", at, b, shortly(m), e)
			}
		}
	}
	slices.Sort(forms)
	forms = slices.Compact(forms)
	// Those that begin with another one stand right behind it.
	for i, form := range forms[1:] {
		if strings.HasPrefix(form, forms[i]) {
			t.Errorf("% x is the beginning of % .60x", forms[i], form)
		}
	}
	if len(forms) < 1500 {
		t.Errorf("%d messages", len(forms))
	}
}

// P15.4, P0.7: no two unlike messages have the same bytes; the same ones have.
func TestUnlikeMessagesHaveOtherBytes(t *testing.T) {
	r := rand.New(rand.NewSource(158))
	sames := 0
	for range 200 {
		var l []api.Message
		for range 40 {
			m := someMessage(r)
			m.Client = r.Intn(2)
			l = append(l, m)
		}
		for _, a := range l {
			form, _ := message.Bytes(a)
			for _, b := range l {
				other, _ := message.Bytes(b)
				is := message.Same(a, b)
				if is != (string(form) == string(other)) || is != same(a, b) {
					t.Errorf("Same(% .60x, % .60x): %v", form, other, is)
				}
				if is {
					sames++
				}
			}
		}
	}
	if sames < 200*40+500 {
		t.Errorf("%d are the same", sames)
	}
}
