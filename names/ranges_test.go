package names_test

import (
	"strings"
	"testing"

	"wicket/names"
)

func wantCmp(t *testing.T, a, b string, want int) {
	t.Helper()
	if got := names.Cmp([]byte(a), []byte(b)); got != want {
		t.Errorf("Cmp(%.40q, %.40q): %d, want %d", a, b, got, want)
	}
}

func wantIn(t *testing.T, key, from, to string, want bool) {
	t.Helper()
	if got := names.In([]byte(key), []byte(from), []byte(to)); got != want {
		t.Errorf("In(%.40q, %.40q, %.40q): %v", key, from, to, got)
	}
}

func wantNext(t *testing.T, key, want string) {
	t.Helper()
	if got := names.Next([]byte(key)); string(got) != want {
		t.Errorf("Next(%.40q): %.40q", key, got)
	}
}

func wantBehind(t *testing.T, front, want string) {
	t.Helper()
	if got, ok := names.Behind([]byte(front)); string(got) != want || !ok {
		t.Errorf("Behind(%.40q): %.40q, %v; want %.40q", front, got, ok, want)
	}
}

func wantNoneBehind(t *testing.T, front string) {
	t.Helper()
	if got, ok := names.Behind([]byte(front)); got != nil || ok {
		t.Errorf("Behind(%.40q): %.40q, %v; want none", front, got, ok)
	}
}

func wantMeet(t *testing.T, from, to, from2, to2, a, b string) {
	t.Helper()
	for range 2 {
		begin, end, some := names.Meet([]byte(from), []byte(to), []byte(from2), []byte(to2))
		if string(begin) != a || string(end) != b || !some {
			t.Errorf("Meet(%.20q %.20q; %.20q %.20q): %.20q, %.20q, %v; want %.20q, %.20q", from, to, from2, to2, begin, end, some, a, b)
		}
		from, to, from2, to2 = from2, to2, from, to
	}
}

func wantApart(t *testing.T, from, to, from2, to2 string) {
	t.Helper()
	for range 2 {
		begin, end, some := names.Meet([]byte(from), []byte(to), []byte(from2), []byte(to2))
		if begin != nil || end != nil || some {
			t.Errorf("Meet(%.20q %.20q; %.20q %.20q): %.20q, %.20q, %v; want none", from, to, from2, to2, begin, end, some)
		}
		from, to, from2, to2 = from2, to2, from, to
	}
}

// The chapter's section 'Examples', its second, third and fourth row.
func TestExamplesOfRanges(t *testing.T) {
	wantCmp(t, "a", "ab", -1)
	wantCmp(t, "b", "ab", 1)
	wantIn(t, "b", "a", "c", true)
	wantIn(t, "c", "a", "c", false)
	wantIn(t, "z", "a", "", true)
	wantNext(t, "a", "a\x00")
	wantBehind(t, "a", "b")
	wantBehind(t, "a\xff", "b")
	wantNoneBehind(t, "\xff\xff")
	wantNoneBehind(t, "")
	wantMeet(t, "a", "c", "b", "d", "b", "c")
	wantApart(t, "a", "b", "b", "c")
	wantMeet(t, "a", "", "b", "", "b", "")
}

// P5.1: byte by byte, as numbers from 0 to 255; a beginning ahead of what it is a beginning of.
func TestCmp(t *testing.T) {
	for _, c := range []struct {
		a, b string
		want int
	}{
		{"", "", 0}, {"", "\x00", -1}, {"", "a", -1}, {"\x00", "\x00\x00", -1}, {"a", "a\x00", -1}, {"a", "a\xff", -1},
		{"ab", "ac", -1}, {"ab", "b", -1}, {"abc", "abd", -1}, {"a\xff", "b", -1}, {"a\xff\xff\xff", "b\x00", -1},
		{"\x7f", "\x80", -1}, {"\x00", "\xff", -1}, {"\x01", "\xff\x00", -1}, {"A", "a", -1}, {"10", "9", -1}, {"same", "same", 0},
		{"\xff\xff", "\xff\xff", 0}, {"\xff", "\xff\xff", -1}, {"ba", "c", -1}, {"bz", "ca", -1},
	} {
		wantCmp(t, c.a, c.b, c.want)
		wantCmp(t, c.b, c.a, -c.want)
	}
	for a := range 256 {
		for b := range 256 {
			want := 0
			if a < b {
				want = -1
			} else if a > b {
				want = 1
			}
			wantCmp(t, "x"+string([]byte{byte(a)}), "x"+string([]byte{byte(b)}), want)
			if a != b {
				wantCmp(t, string([]byte{byte(a), byte(b)}), string([]byte{byte(b), byte(a)}), want)
			}
		}
	}
}

// P5.1: longer bytes than a key's go too, wherever the difference stands.
func TestCmpOfLongBytes(t *testing.T) {
	long := strings.Repeat("k", 100000)
	wantCmp(t, long, long, 0)
	wantCmp(t, long, long+"\x00", -1)
	wantCmp(t, long+"\x00", long, 1)
	wantCmp(t, long, "l", -1)
	wantCmp(t, "j\xff", long, -1)
	for _, at := range []int{0, 1, 63, 64, 65, 255, 256, 65535, 65536, 99999} {
		wantCmp(t, long[:at]+"j"+long[at+1:], long, -1)
		wantCmp(t, long[:at]+"l"+long[at+1:], long, 1)
		wantCmp(t, long[:at]+"l", long, 1)
		wantCmp(t, long[:at], long, -1)
	}
	if names.Cmp(nil, nil) != 0 || names.Cmp(nil, []byte{}) != 0 || names.Cmp([]byte{}, nil) != 0 || names.Cmp(nil, []byte{0}) != -1 || names.Cmp([]byte{0}, nil) != 1 {
		t.Error("Cmp of nil")
	}
}

// P5.1: not below the first one, and below the second one.
func TestIn(t *testing.T) {
	for _, c := range []struct {
		key, from, to string
		want          bool
	}{
		{"a", "a", "c", true}, {"a\x00", "a", "c", true}, {"b\xff\xff", "a", "c", true}, {"c\x00", "a", "c", false}, {"", "a", "c", false},
		{"`\xff", "a", "c", false}, {"a", "a\x00", "c", false}, {"d", "a", "c", false}, {"\xff", "a", "c", false}, {"A", "a", "c", false},
		{"ab", "a", "ab", false}, {"aa\xff", "a", "ab", true}, {"a", "a", "a\x00", true}, {"a\x00", "a", "a\x00", false},
	} {
		wantIn(t, c.key, c.from, c.to, c.want)
	}
}

// P5.1: a range without an end; one from nothing on; ranges that have no key; a key of no bytes, or a longer one than keys are.
func TestInAtTheEdges(t *testing.T) {
	long := strings.Repeat("b", 1000)
	for _, c := range []struct {
		key, from, to string
		want          bool
	}{
		{"a", "a", "", true}, {"\xff\xff\xff", "a", "", true}, {"`", "a", "", false}, {"", "a", "", false},
		{"", "", "", true}, {"\x00", "", "", true}, {"\xff", "", "", true}, {"\xff", "\xff", "", true}, {"\xfe\xff", "\xff", "", false},
		{"", "", "\x00", true}, {"\x00", "", "\x00", false}, {"", "", "a", true}, {"a", "", "a", false},
		{"a", "a", "a", false}, {"b", "c", "a", false}, {"a", "c", "a", false}, {"c", "c", "a", false}, {"d", "c", "a", false},
		{long, "a", "c", true}, {long, long, long + "\x00", true}, {long, long, long, false}, {long[1:], long, "", false}, {long, "a", long, false},
	} {
		wantIn(t, c.key, c.from, c.to, c.want)
	}
	if !names.In(nil, nil, nil) || names.In(nil, []byte{0}, nil) || !names.In([]byte{255}, nil, nil) || !names.In(nil, nil, []byte{0}) {
		t.Error("In of nil")
	}
}

// P5.2: the bytes and a byte 0 behind them, of each byte, of none and of as many as may be.
func TestNext(t *testing.T) {
	for c := range 256 {
		key := string([]byte{byte(c)})
		wantNext(t, key, key+"\x00")
		wantNext(t, "ab"+key, "ab"+key+"\x00")
	}
	for _, n := range []int{0, 1, 2, 7, 8, 9, 63, 64, 65, 1000, 100000} {
		for _, sign := range []string{"\x00", "a", "\xff"} {
			key := strings.Repeat(sign, n)
			wantNext(t, key, key+"\x00")
		}
	}
	if got := names.Next(nil); string(got) != "\x00" {
		t.Errorf("Next(nil): %q", got)
	}
}

// P5.2: bytes 255 at the end are let go, and the byte ahead of them is one more.
func TestBehind(t *testing.T) {
	for c := range 255 {
		one, more := string([]byte{byte(c)}), string([]byte{byte(c + 1)})
		for _, ahead := range []string{"", "a", "\x00", "\xff", "\xff\xff", "a\xff", strings.Repeat("k", 63)} {
			for _, n := range []int{0, 1, 2, 8, 63, 1000} {
				wantBehind(t, ahead+one+strings.Repeat("\xff", n), ahead+more)
			}
		}
	}
	wantBehind(t, "\xff\xffa\xff\xff", "\xff\xffb")
	wantBehind(t, "\xfe", "\xff")
	wantBehind(t, "\xfe\xff\xff", "\xff")
	wantBehind(t, "\xff\xfe", "\xff\xff")
	wantBehind(t, "\x00\x00", "\x00\x01")
	wantBehind(t, strings.Repeat("a", 64), strings.Repeat("a", 63)+"b")
}

// P5.2: there are none behind bytes 255 alone, nor behind no bytes, of which all are the beginning.
func TestNoneBehind(t *testing.T) {
	for _, n := range []int{0, 1, 2, 3, 63, 64, 65, 1000, 100000} {
		wantNoneBehind(t, strings.Repeat("\xff", n))
	}
	if b, ok := names.Behind(nil); b != nil || ok {
		t.Errorf("Behind(nil): %q, %v", b, ok)
	}
}

// P5.2: the greater beginning and the lesser end, each range within the other, ahead of it, the same.
func TestMeet(t *testing.T) {
	wantMeet(t, "a", "d", "b", "c", "b", "c")
	wantMeet(t, "a", "c", "a", "c", "a", "c")
	wantMeet(t, "a", "c", "a", "b", "a", "b")
	wantMeet(t, "a", "c", "b", "c", "b", "c")
	wantMeet(t, "a", "ab", "a", "aa", "a", "aa")
	wantMeet(t, "a", "b", "aa", "b\x00", "aa", "b")
	wantMeet(t, "a", "b\x00", "b", "c", "b", "b\x00")
	wantMeet(t, "\x7f", "\xff", "\x80", "\xff\xff", "\x80", "\xff")
	long := strings.Repeat("m", 1000)
	wantMeet(t, "a", long, "b", long+"a", "b", long)
	wantMeet(t, long, "z", long[1:], "y", long, "y")
	wantApart(t, "a", "b", "c", "d")
	wantApart(t, "a", "b", "b\x00", "c")
	wantApart(t, "a", long, long, "z")
}

// P5.2: no end is above all; from nothing on is below all.
func TestMeetOfRangesWithoutAnEnd(t *testing.T) {
	wantMeet(t, "a", "", "b", "c", "b", "c")
	wantMeet(t, "b", "", "a", "c", "b", "c")
	wantMeet(t, "a", "", "a", "", "a", "")
	wantMeet(t, "", "", "", "", "", "")
	wantMeet(t, "", "", "a", "c", "a", "c")
	wantMeet(t, "", "b", "a", "", "a", "b")
	wantMeet(t, "", "\xff\xff", "\xff", "", "\xff", "\xff\xff")
	wantMeet(t, "\xff\xff\xff", "", "a", "", "\xff\xff\xff", "")
	wantApart(t, "b", "", "a", "b")
	wantApart(t, "c", "", "a", "b")
	wantApart(t, "\xff", "", "a", "\xff")
	wantApart(t, "", "a", "a", "")
	begin, end, some := names.Meet(nil, nil, nil, nil)
	if len(begin) != 0 || len(end) != 0 || !some {
		t.Errorf("Meet of nil: %q, %q, %v", begin, end, some)
	}
}

// P5.2: a range that has no key meets none, though it lie within the other one.
func TestMeetOfRangesWithoutKeys(t *testing.T) {
	for _, empty := range [][2]string{{"b", "b"}, {"c", "b"}, {"b\x00", "b"}, {"z", "a"}, {"\xff", "\x00"}, {"\x00", "\x00"}} {
		for _, other := range [][2]string{{"", ""}, {"a", "d"}, {"a", ""}, {"", "z"}, {"b", "c"}, {"b", "b\x00"}, {"b", ""}, empty, {"d", "a"}} {
			wantApart(t, empty[0], empty[1], other[0], other[1])
		}
	}
}

// P5.2: bytes are in both where no key is: those without a byte.
func TestMeetAtNoBytes(t *testing.T) {
	wantMeet(t, "", "\x00", "", "", "", "\x00")
	wantMeet(t, "", "\x00", "", "a", "", "\x00")
	wantMeet(t, "", "\x00", "", "\x00", "", "\x00")
	wantApart(t, "", "\x00", "\x00", "")
}
