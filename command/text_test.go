package command_test

import (
	"math"
	"strings"
	"testing"

	"wicket/api"
	"wicket/calls"
	"wicket/command"
)

// wantNoText: it is no command's text, say this package and the words.
func wantNoText(t *testing.T, s string) {
	t.Helper()
	if c, e := command.Parse(s); e != api.ErrBytes || !same(c, api.Command{}) || c.Call.Ops != nil {
		t.Errorf("Parse(%.200q): %v, %v", s, c, e)
	}
	wantParse(t, s)
}

var commandTexts = []string{
	"open 5", "open 9223372036854775807", "close 3", "expire 3", "call 1 2 0 get t k", "call 3 4 3 put t k v; get t k", "call 9223372036854775807 9223372036854775807 9223372036854775806 scan t % % 5",
}

// P9.1: a text of each kind.
func TestTextsOfEachKind(t *testing.T) {
	most := int64(math.MaxInt64)
	for i, c := range []api.Command{
		open(5), open(most), closing(3), expire(3), calling(1, 2, 0, parsed("get t k")), calling(3, 4, 3, parsed("put t k v; get t k")), calling(most, most, most-1, parsed("scan t % % 5")),
	} {
		if s, e := command.Text(c); s != commandTexts[i] || e != api.OK {
			t.Errorf("Text(%v): %q, %v; want %q", c, s, e, commandTexts[i])
		}
		if got, e := command.Parse(commandTexts[i]); !same(got, c) || e != api.OK {
			t.Errorf("Parse(%q): %v, %v", commandTexts[i], got, e)
		}
		wantTaken(t, c)
	}
}

// P9.1: no text; blanks and words, too many and too few, at the beginning, within, at the end.
func TestWordsAndBlanks(t *testing.T) {
	for _, s := range []string{"", " ", "  ", "5", "open", "call", "close", "expire", "open ", "call ", " 5", "get t k", "call 1", "call 1 2", "call 1 2 0", "call 1 2 0 ", "call 1 2 get t k", "call get t k", "open open", "%"} {
		wantNoText(t, s)
	}
	for _, s := range commandTexts {
		for _, wrong := range []string{" " + s, s + " ", "  " + s, s + "  ", s + "\n", "\n" + s, s + "\x00", "\t" + s, s + "\t", s + " 5", s + " x", s + " %", s + " " + s, s + ";", s + "; ", s + "; " + s, s + ",", strings.ToUpper(s), strings.ToUpper(s[:1]) + s[1:]} {
			wantNoText(t, wrong)
		}
		for at := range len(s) {
			wantParse(t, s[:at])
			wantParse(t, s[at:])
			wantParse(t, s[:at]+s[at+1:])
			if s[at] == ' ' {
				for _, other := range []string{"", "  ", "   ", "\t", "\n", " \t", "\u00a0", "%20", ",", ";", "; ", " ; "} {
					wantNoText(t, s[:at]+other+s[at+1:])
				}
			}
		}
		wantFewerWords(t, s)
	}
	for _, s := range []string{"open 5 get t k", "close 3 get t k", "expire 3 get t k", "open 1 2 0 get t k", "close 1 2 0 get t k", "open 1 2", "close 1 2", "close 1 2 3 4 5 6", "expire 1 1", "call 1 2 0 0 get t k", "call 1 2 0 1 get t k"} {
		wantNoText(t, s)
	}
	wantNoText(t, strings.Repeat(" ", 1<<20))
	wantNoText(t, "call 1 2 0 "+strings.Repeat("get t k; ", 1<<16))
	wantNoText(t, "open "+strings.Repeat("1", 1<<20))
}

// wantFewerWords: without one of its words, or with a word without bytes in place of one, it is no text.
func wantFewerWords(t *testing.T, s string) {
	t.Helper()
	words := strings.Split(s, " ")
	for i := range words {
		front, rest := words[:i:i], words[i+1:]
		wantNoText(t, strings.Join(append(front, rest...), " "))
		wantNoText(t, strings.Join(append(append(front, ""), rest...), " "))
	}
}

// P9.1: words that are no kind's.
func TestKindsInTexts(t *testing.T) {
	for _, word := range []string{"", "Open", "OPEN", "opened", "ope", "opens", "op", "closing", "clos", "Close", "expired", "Expire", "calls", "cal", "Call", "1", "2", "%6Fpen", "get", "put", "\x00open", "open\x00", "\uff4fpen", "opеn"} {
		for _, rest := range []string{"5", "1 2 0 get t k", ""} {
			wantNoText(t, word+" "+rest)
		}
		wantNoText(t, word)
	}
}

// P9.1: numbers have one text, and are from their least on.
func TestNumbersInTexts(t *testing.T) {
	for _, text := range []func(string) string{
		func(n string) string { return "open " + n }, func(n string) string { return "close " + n }, func(n string) string { return "expire " + n },
		func(n string) string { return "call " + n + " 1 0 get t k" }, func(n string) string { return "call 1 " + n + " 0 get t k" },
	} {
		for _, n := range []string{"1", "9", "10", "99", "4294967296", "9223372036854775806", "9223372036854775807"} {
			if !wantParse(t, text(n)) {
				t.Errorf("%q is no text", text(n))
			}
			for _, front := range []string{"0", "+", "-", "00", "0x", "_", "%", " ", "\t"} {
				wantNoText(t, text(front+n))
			}
			for _, behind := range []string{".0", "e0", "_", "%", "x", " ", ",", "_0"} {
				wantNoText(t, text(n+behind))
			}
		}
		for _, n := range []string{"", "0", "-0", "+0", "00", "-1", "-9223372036854775808", "9223372036854775808", "18446744073709551617", "99999999999999999999", "a", "0x1", "1_0", "%31", "\u0661", "١", "1e3", "½"} {
			wantNoText(t, text(n))
		}
	}
}

// P9.1: a mark's text, and marks that are not below the number.
func TestMarksInTexts(t *testing.T) {
	for _, s := range []string{"call 1 1 0 get t k", "call 1 2 0 get t k", "call 1 2 1 get t k", "call 1 10 9 get t k", "call 1 9223372036854775807 9223372036854775806 get t k"} {
		if !wantParse(t, s) {
			t.Errorf("%q is no text", s)
		}
	}
	for _, s := range []string{
		"call 1 1 1 get t k", "call 1 2 2 get t k", "call 1 2 3 get t k", "call 1 2 -1 get t k", "call 1 2 -0 get t k", "call 1 2 +0 get t k", "call 1 2 00 get t k", "call 1 2 +1 get t k", "call 1 2 01 get t k",
		"call 1 9223372036854775807 9223372036854775807 get t k", "call 1 2 9223372036854775808 get t k", "call 1 2 18446744073709551616 get t k", "call 1 2 18446744073709551617 get t k", "call 1 2 x get t k",
	} {
		wantNoText(t, s)
	}
}

// P9.1: what stands behind the numbers is the text of a call that is not too long.
func TestInnerTexts(t *testing.T) {
	for _, text := range callTexts {
		if !wantParse(t, "call 1 2 0 "+text) {
			t.Errorf("%q is no call's text", text)
		}
	}
	for _, text := range []string{
		"", " get t k", "get t k ", "get  t k", "get t k;", "get t k; ", "get t", "get", "get t %", "get t %6B", "get T k", "get t k v", "put t k", "fly t k", "scan t % % 0", "scan t % % 65", "scan t % % 05", "swap t k o v", "swap t k -o v", "open 5", "close 3", "call 1 2 0 get t k",
	} {
		wantNoText(t, "call 1 2 0 "+text)
	}
	most, _ := calls.Text(sized(4096))
	if !wantParse(t, "call 1 2 0 "+most) {
		t.Error("a call of 4096 bytes is not read")
	}
	wantNoText(t, "call 1 2 0 "+most+"a")
	wantNoText(t, "call 1 2 0 get t "+strings.Repeat("a", 3*4096))
}
