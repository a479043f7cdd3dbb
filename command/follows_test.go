package command_test

import (
	"math/rand"
	"slices"
	"strings"
	"testing"

	"wicket/api"
	"wicket/command"
)

// P9.2: Read of Bytes and Parse of Text are the command; what is read is written as it was.
func TestWrittenIsRead(t *testing.T) {
	r := rand.New(rand.NewSource(94))
	for range 5000 {
		c := someCommand(r)
		form, e := command.Bytes(c)
		read, e2 := command.Read(form)
		if e != api.OK || e2 != api.OK || !same(read, c) || !command.Same(read, c) {
			t.Errorf("% .60x: %v, %v", form, e, e2)
		}
		text, e := command.Text(c)
		parsed, e2 := command.Parse(text)
		if e != api.OK || e2 != api.OK || !same(parsed, c) || !command.Same(parsed, c) {
			t.Errorf("%.100q: %v, %v", text, e, e2)
		}
		again, _ := command.Bytes(parsed)
		textAgain, _ := command.Text(read)
		if string(again) != string(form) || textAgain != text {
			t.Errorf("%.100q is %.100q, % .60x is % .60x", text, textAgain, form, again)
		}
	}
}

// P9.2: no two unlike commands that may be have one form, or one text; the same ones have.
func TestUnlikeCommandsHaveOtherForms(t *testing.T) {
	r := rand.New(rand.NewSource(95))
	sames := 0
	for range 200 {
		var l []api.Command
		for range 20 {
			l = append(l, someCommand(r))
		}
		for _, a := range l {
			form, _ := command.Bytes(a)
			text, _ := command.Text(a)
			for _, b := range l {
				other, _ := command.Bytes(b)
				otherText, _ := command.Text(b)
				is := same(a, b)
				if is != (string(form) == string(other)) || is != (text == otherText) || is != command.Same(a, b) {
					t.Errorf("Same(%.100q, %.100q): %v", text, otherText, command.Same(a, b))
				}
				if is {
					sames++
				}
			}
		}
	}
	if sames < 200*20+500 {
		t.Errorf("%d are the same", sames)
	}
}

// P9.2: no form is the beginning of another one.
func TestNoFormBeginsAnother(t *testing.T) {
	r := rand.New(rand.NewSource(96))
	var forms []string
	for range 5000 {
		form, _ := command.Bytes(someCommand(r))
		forms = append(forms, string(form))
	}
	for kind := range 256 {
		for n := range 256 {
			if form := string([]byte{byte(kind), byte(n)}); wantRead(t, form) {
				forms = append(forms, form)
			}
		}
	}
	slices.Sort(forms)
	forms = slices.Compact(forms)
	// Those that begin with a form stand right behind it.
	for i, form := range forms[1:] {
		if strings.HasPrefix(form, forms[i]) {
			t.Errorf("% x is the beginning of % .60x", forms[i], form)
		}
	}
	if len(forms) < 1000 {
		t.Errorf("%d forms", len(forms))
	}
}
