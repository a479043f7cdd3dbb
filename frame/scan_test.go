package frame_test

import (
	"strings"
	"testing"

	"wicket/api"
	"wicket/frame"
)

func wantNotOne(t *testing.T, what, b string) {
	t.Helper()
	if f, e := frame.One([]byte(b)); f.Kind != 0 || f.Body != nil || e != api.ErrBytes {
		t.Errorf("One of %s: %v, %v; want none, %v", what, tell([]api.Frame{f}), e, api.ErrBytes)
	}
}

func wantOne(t *testing.T, what, b string, want told) {
	t.Helper()
	if f, e := frame.One([]byte(b)); (told{f.Kind, string(f.Body)}) != want || e != api.OK {
		t.Errorf("One of %s: %v, %v; want %v", what, tell([]api.Frame{f}), e, want)
	}
}

// P4.2: frames one behind the other, each kind and empty bodies too; the same body twice is two frames.
func TestScan(t *testing.T) {
	l, n, e := frame.Scan(nil)
	if len(l) != 0 || n != 0 || e != api.OK {
		t.Errorf("Scan(nil): %v, %d, %v", tell(l), n, e)
	}
	var all string
	var want []told
	for kind := range 256 {
		body := "abcdefghijk"[:kind%12]
		all += byWords(kind, body)
		want = append(want, told{kind, body})
		wantScan(t, "frames", all, len(all), api.OK, want...)
	}
	same := byWords(4, "x")
	wantScan(t, "the same frame thrice", same+same+same, 30, api.OK, told{4, "x"}, told{4, "x"}, told{4, "x"})
	long := strings.Repeat("z", 1<<20)
	wantScan(t, "a long frame between others", same+byWords(5, long)+same, 29+1<<20, api.OK, told{4, "x"}, told{5, long}, told{4, "x"})
	many := strings.Repeat(byWords(6, ""), 100000)
	wantScan(t, "many frames", many, 900000, api.OK, make6(100000)...)
}

func make6(n int) []told {
	l := make([]told, n)
	for i := range l {
		l[i].kind = 6
	}
	return l
}

// P4.2: a body that has frames itself is a body; a frame behind torn or bad bytes is none of the frames.
func TestScanOfFramesWithin(t *testing.T) {
	in := byWords(1, "a") + byWords(2, "")
	wantScan(t, "frames in a frame", byWords(3, in), 28, api.OK, told{3, in})
	a := byWords(1, "a")
	wantScan(t, "a byte ahead, so that a length of 2^24 is said", "\x00"+a, 0, api.ErrTorn)
	wantScan(t, "a bad frame ahead", byWords(7, "b")[:9]+"c"+a, 0, api.ErrBad)
	wantScan(t, "a bad frame between", a+byWords(7, "b")[:9]+"c"+a, 10, api.ErrBad, told{1, "a"})
	wantScan(t, "a frame cut short between", a+byWords(7, "bcd")[:11]+a, 10, api.ErrBad, told{1, "a"})
	wantScan(t, "a long frame cut short between", a+byWords(7, "0123456789abcdef")[:11]+a, 10, api.ErrTorn, told{1, "a"})
}

// P4.2: fewer than nine bytes are torn, whatever they are, behind frames or at the front.
func TestFewerThanNine(t *testing.T) {
	a := byWords(1, "a")
	for n := 1; n < 9; n++ {
		for _, rest := range []string{strings.Repeat("\x00", n), strings.Repeat("\xff", n), "\x01\x80\x00\x00\x00xyz"[:n], byWords(5, "")[:n], byWords(5, "abc")[:n]} {
			wantScan(t, "fewer than nine bytes", rest, 0, api.ErrTorn)
			wantScan(t, "fewer than nine bytes behind a frame", a+rest, 10, api.ErrTorn, told{1, "a"})
			wantNotOne(t, "fewer than nine bytes", rest)
			wantNotOne(t, "a frame and fewer than nine bytes", a+rest)
		}
	}
}

// P4.2: nine bytes and more, by the length that they say and how many of its bytes are there.
func TestLengthsThatAreSaid(t *testing.T) {
	a := byWords(1, "a")
	for _, c := range []struct {
		length string
		behind int
		e      api.Errno
	}{
		{"\x00\x00\x00\x00", 0, api.ErrBad}, {"\x00\x00\x00\x00", 1, api.ErrBad},
		{"\x00\x00\x00\x01", 0, api.ErrTorn}, {"\x00\x00\x00\x01", 1, api.ErrBad}, {"\x00\x00\x00\x01", 2, api.ErrBad},
		{"\x00\x00\x00\xff", 254, api.ErrTorn}, {"\x00\x00\x00\xff", 255, api.ErrBad},
		{"\x00\x00\x01\x00", 255, api.ErrTorn}, {"\x00\x00\x01\x00", 256, api.ErrBad},
		{"\x00\x01\x00\x00", 65535, api.ErrTorn}, {"\x00\x01\x00\x00", 65536, api.ErrBad},
		{"\x01\x00\x00\x00", 65536, api.ErrTorn}, {"\x01\x00\x00\x00", 1<<24 - 1, api.ErrTorn}, {"\x01\x00\x00\x00", 1 << 24, api.ErrBad},
		{"\x7f\xff\xff\xfe", 0, api.ErrTorn}, {"\x7f\xff\xff\xff", 0, api.ErrTorn}, {"\x7f\xff\xff\xff", 1000, api.ErrTorn},
		{"\x80\x00\x00\x00", 0, api.ErrBad}, {"\x80\x00\x00\x00", 1000, api.ErrBad}, {"\x80\x00\x00\x01", 1, api.ErrBad},
		{"\xff\xff\xff\xff", 0, api.ErrBad}, {"\xff\xff\xff\xff", 1000, api.ErrBad}, {"\xff\xff\xff\xf7", 0, api.ErrBad},
	} {
		rest := "\x01" + c.length + "\x00\x00\x00\x00" + strings.Repeat("x", c.behind)
		wantScan(t, "a length that is said", rest, 0, c.e)
		wantScan(t, "a length that is said behind a frame", a+rest, 10, c.e, told{1, "a"})
		wantNotOne(t, "a length that is said", rest)
	}
}

// P4.2: the sum of another kind, length or body, of the body alone, or the lowest byte first, is a wrong one.
func TestWrongSums(t *testing.T) {
	f := byWords(1, "abc")
	swapped := string([]byte{f[8], f[7], f[6], f[5]})
	for what, wrong := range map[string]string{
		"another kind":        "\x02" + f[1:],
		"another body":        f[:9] + "abd",
		"a shorter length":    "\x01\x00\x00\x00\x02" + f[5:11],
		"no sum":              f[:5] + "\x00\x00\x00\x00abc",
		"the sum turned":      f[:5] + string([]byte{^f[5], ^f[6], ^f[7], ^f[8]}) + "abc",
		"the body's sum":      f[:5] + "\x36\x4b\x3f\xb7abc",
		"the lowest first":    f[:5] + swapped + "abc",
		"one of another kind": f[:5] + byWords(2, "abc")[5:9] + "abc",
	} {
		wantScan(t, what, wrong, 0, api.ErrBad)
		wantScan(t, what+" behind a frame", f+wrong, 12, api.ErrBad, told{1, "abc"})
		wantNotOne(t, what, wrong)
	}
}

// P4.2: just one frame, no more and no less.
func TestOne(t *testing.T) {
	for kind := range 256 {
		wantOne(t, "an empty frame", byWords(kind, ""), told{kind, ""})
		wantOne(t, "a frame", byWords(kind, "ab"), told{kind, "ab"})
	}
	long := strings.Repeat("z", 1<<20)
	wantOne(t, "a long frame", byWords(5, long), told{5, long})
	wantOne(t, "a frame of a frame", byWords(5, byWords(6, "x")), told{5, byWords(6, "x")})
	a := byWords(1, "a")
	for what, b := range map[string]string{
		"nothing": "", "two frames": a + a, "a frame and an empty one": a + byWords(0, ""), "a frame and a byte": a + "\x00",
		"a frame and what is bad": a + strings.Repeat("\x00", 9), "a byte and a frame": "\x00" + a, "a frame without its last byte": a[:9],
		"a frame without its first byte": a[1:], "nine bytes 0": strings.Repeat("\x00", 9), "a long frame and a byte": byWords(5, long) + "z",
	} {
		wantNotOne(t, what, b)
	}
	if f, e := frame.One(nil); f.Kind != 0 || f.Body != nil || e != api.ErrBytes {
		t.Errorf("One(nil): %v, %v", f, e)
	}
}
