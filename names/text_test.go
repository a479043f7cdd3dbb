package names_test

import (
	"fmt"
	"regexp"
	"strings"
	"testing"

	"wicket/api"
	"wicket/names"
)

func wantText(t *testing.T, b, want string) {
	t.Helper()
	if got := names.Text([]byte(b)); got != want {
		t.Errorf("Text(%.40q): %.40q, want %.40q", b, got, want)
	}
}

func wantRead(t *testing.T, s, want string) {
	t.Helper()
	if got, e := names.Read(s); string(got) != want || e != api.OK {
		t.Errorf("Read(%.40q): %.40q, %v; want %.40q", s, got, e, want)
	}
}

func wantNoText(t *testing.T, s string) {
	t.Helper()
	if got, e := names.Read(s); got != nil || e != api.ErrBytes {
		t.Errorf("Read(%.40q): %.40q, %v; want none, %v", s, got, e, api.ErrBytes)
	}
}

const asTheyAre = "!\"#$&'()*+-./0123456789:<=>?@ABCDEFGHIJKLMNOPQRSTUVWXYZ[\\]^_`abcdefghijklmnopqrstuvwxyz{|}~"

// plainText is what the chapter's section 'Words' says of bytes as a text.
func plainText(b string) string {
	if b == "" {
		return "%"
	}
	var s strings.Builder
	for _, c := range []byte(b) {
		if strings.IndexByte(asTheyAre, c) >= 0 {
			s.WriteByte(c)
		} else {
			fmt.Fprintf(&s, "%%%02X", c)
		}
	}
	return s.String()
}

var escaped = regexp.MustCompile("%[0-9A-F][0-9A-F]")

// plainRead is the bytes whose text is s, if it is one: they are what it says, if their text is s.
func plainRead(s string) (b string, ok bool) {
	if s == "%" {
		return "", true
	}
	b = escaped.ReplaceAllStringFunc(s, func(part string) string {
		var c int
		fmt.Sscanf(part, "%%%X", &c)
		return string([]byte{byte(c)})
	})
	return b, plainText(b) == s
}

// The chapter's section 'Examples', its last row.
func TestExamplesOfTexts(t *testing.T) {
	wantText(t, "a%b", "a%25b")
	wantText(t, "\x00", "%00")
	wantText(t, "", "%")
	wantRead(t, "a%25b", "a%b")
	wantNoText(t, "%61")
	wantRead(t, "%", "")
}

// P5.3: each byte from 0 to 255, alone and among others.
func TestEachByteAsAText(t *testing.T) {
	if len(asTheyAre) != 126-33+1-3 {
		t.Fatalf("%d bytes go as they are", len(asTheyAre))
	}
	for c := range 256 {
		b := string([]byte{byte(c)})
		want := b
		if c < 33 || c > 126 || c == '%' || c == ',' || c == ';' {
			want = fmt.Sprintf("%%%02X", c)
		}
		for _, around := range [][2]string{{"", ""}, {"a", ""}, {"", "b"}, {"a", "b"}} {
			wantText(t, around[0]+b+around[1], around[0]+want+around[1])
			wantRead(t, around[0]+want+around[1], around[0]+b+around[1])
		}
		wantText(t, b+b, want+want)
		wantRead(t, want+want, b+b)
	}
	wantText(t, " ,;%\x7f\xff\n", "%20%2C%3B%25%7F%FF%0A")
	wantText(t, "!~", "!~")
	wantText(t, "%%", "%25%25")
	wantText(t, "%00", "%2500")
	wantText(t, "é", "%C3%A9")
	if got := names.Text(nil); got != "%" {
		t.Errorf("Text(nil): %q", got)
	}
}

// P5.3: all bytes that may be a value, and longer ones.
func TestLongTexts(t *testing.T) {
	for _, n := range []int{1, 15, 16, 17, 64, 256, 257, 4096, 100000} {
		wantText(t, strings.Repeat("a", n), strings.Repeat("a", n))
		wantRead(t, strings.Repeat("a", n), strings.Repeat("a", n))
		wantText(t, strings.Repeat("\x9c", n), strings.Repeat("%9C", n))
		wantRead(t, strings.Repeat("%9C", n), strings.Repeat("\x9c", n))
		wantNoText(t, strings.Repeat("%9C", n)+"%")
		wantNoText(t, strings.Repeat("a", n)+" ")
		wantNoText(t, " "+strings.Repeat("a", n))
	}
}

// P5.3: a byte of a text that stands for no byte, ahead of others, behind them, alone.
func TestBytesThatAreInNoText(t *testing.T) {
	for c := range 256 {
		sign := string([]byte{byte(c)})
		if strings.Contains(asTheyAre, sign) {
			wantRead(t, sign, sign)
			continue
		}
		for _, around := range [][2]string{{"", ""}, {"a", ""}, {"", "b"}, {"a", "b"}, {"%00", ""}, {"", "%00"}} {
			if sign == "%" && around == [2]string{} {
				continue
			}
			wantNoText(t, around[0]+sign+around[1])
		}
	}
	wantNoText(t, "")
}

// P5.3: a '%' and each two bytes behind it: just two digits, of a byte that does not go as it is.
func TestEachTwoBytesBehindAPercent(t *testing.T) {
	const digits = "0123456789ABCDEF"
	for high := range 256 {
		for low := range 256 {
			s := "%" + string([]byte{byte(high), byte(low)})
			h, l := strings.IndexByte(digits, byte(high)), strings.IndexByte(digits, byte(low))
			b := string([]byte{byte(16*h + l)})
			if h < 0 || l < 0 || strings.Contains(asTheyAre, b) {
				wantNoText(t, s)
				wantNoText(t, "a"+s+"b")
				continue
			}
			wantRead(t, s, b)
			wantRead(t, "a"+s+"b", "a"+b+"b")
		}
	}
}

// P5.3: texts that are none of any bytes.
func TestWrongTexts(t *testing.T) {
	for what, l := range map[string][]string{
		"too few digits":                {"%2", "%F", "%0", "a%", "a%2", "%00%", "%00%2", "%2%20", "%%20", "%a", "%g"},
		"digits a to f":                 {"%2c", "%ff", "%Ff", "%fF", "%0a", "%3b", "%7f", "%c3%a9", "%aF"},
		"a byte that goes as it is":     {"%61", "%21", "%7E", "%30", "%41", "a%62c", "%2B", "%2D", "%3A", "%3C", "%24", "%26"},
		"no bytes beside other bytes":   {"%%", "a%", "%a", "%%%", "%00%", "% ", "%,", "%b%", "%%00"},
		"bytes that do not go as such":  {" ", ",", ";", "a b", "a,b", "a;b", "\x00", "\n", "\x7f", "\x80", "\xff", "é", "a\n", "\t"},
		"other ways to write the bytes": {"%0x1", "%+1", "%-1", "% 1", "%1 ", "%0_", "%x00", "%u00", "%000 ", "%2G", "%G2", "%:0", "%0:", "%@0", "%0@", "%/0", "%0/"},
	} {
		for _, s := range l {
			if got, e := names.Read(s); got != nil || e != api.ErrBytes {
				t.Errorf("%s: Read(%q) is %q, %v", what, s, got, e)
			}
		}
	}
	wantRead(t, "%000", "\x000")
	wantRead(t, "%2525", "%25")
	wantRead(t, "%2561", "%61")
}

// P5.3: of all short texts over bytes that are told apart Read tells what the words say.
func TestShortTextsAreAsTheWordsSay(t *testing.T) {
	some, none := 0, 0
	for _, s := range allOver("%025AFaG, ~", 4) {
		if want, ok := plainRead(s); ok {
			wantRead(t, s, want)
			wantText(t, want, s)
			some++
		} else {
			wantNoText(t, s)
			none++
		}
	}
	if some < 1000 || none < 1000 {
		t.Errorf("%d texts, %d that are none", some, none)
	}
}
