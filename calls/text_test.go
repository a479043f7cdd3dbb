package calls_test

import (
	"strings"
	"testing"

	"wicket/api"
	"wicket/calls"
)

// wantParse: Parse is as the words say; it tells whether s is a text of what Check takes.
func wantParse(t *testing.T, s string) bool {
	t.Helper()
	want, e := api.Call{}, api.ErrLong
	if len(s) <= 3*4096 {
		e = api.ErrBytes
		if c, ok := plainParse(s); ok {
			want, e = c, api.OK
		}
	}
	got, is := calls.Parse(s)
	if is != e || !same(got, want) || !calls.Same(got, want) || e != api.OK && got.Ops != nil {
		t.Errorf("Parse(%.200q): %.100q, %v; want %.100q, %v", s, plainText(got), is, plainText(want), e)
	}
	return e == api.OK
}

func wantNoText(t *testing.T, s string, want api.Errno) {
	t.Helper()
	if c, e := calls.Parse(s); e != want || c.Ops != nil {
		t.Errorf("Parse(%.200q): %.100q, %v; want %v", s, plainText(c), e, want)
	}
	wantParse(t, s)
}

// The chapter's section 'Examples', its fourth and its last row, and a text of each kind.
func TestExamplesOfTexts(t *testing.T) {
	for want, c := range map[string]api.Call{
		"swap t k +a b":                          call(swap("t", "k", "a", "b")),
		"swap t k - b":                           call(swapNone("t", "k", "b")),
		"scan t % z 5":                           call(scan("t", "", "z", 5)),
		"get t k":                                call(get("t", "k")),
		"put t k %":                              call(put("t", "k", "")),
		"put t k v; get t k":                     call(put("t", "k", "v"), get("t", "k")),
		"delete t k":                             call(remove("t", "k")),
		"swap t k +% %":                          call(swap("t", "k", "", "")),
		"swap t k - %":                           call(swapNone("t", "k", "")),
		"swap t k +- +":                          call(swap("t", "k", "-", "+")),
		"swap t k ++ -":                          call(swap("t", "k", "+", "-")),
		"scan t % % 64":                          call(scan("t", "", "", 64)),
		"scan t a %00 1":                         call(scan("t", "a", "\x00", 1)),
		"put get %20 %3B%20; scan scan scan 5 5": call(put("get", " ", "; "), scan("scan", "scan", "5", 5)),
		"put t %25 %2C%7F%FF~!":                  call(put("t", "%", ",\x7f\xff~!")),
	} {
		if s, e := calls.Text(c); s != want || e != api.OK {
			t.Errorf("Text: %q, %v; want %q", s, e, want)
		}
		if got, e := calls.Parse(want); !same(got, c) || e != api.OK {
			t.Errorf("Parse(%q): %q, %v", want, plainText(got), e)
		}
		wantCall(t, c)
	}
	for _, s := range []string{"get  t k", "get t k;", "scan t % % 05"} {
		wantNoText(t, s, api.ErrBytes)
	}
}

// P6.3: blanks and words, too many and too few.
func TestWordsAndBlanks(t *testing.T) {
	for _, s := range []string{
		"get t k", "put t k v", "delete t k", "swap t k +a b", "swap t k - b", "scan t a z 5", "put t k v; get t k", "get t k; scan t % % 1; delete t k",
	} {
		if !wantParse(t, s) {
			t.Errorf("%q is no text", s)
		}
		for _, more := range []string{" " + s, s + " ", s + ";", s + "; ", ";" + s, "; " + s, s + ";" + s, s + " ;" + s, s + " ; " + s, s + ";  " + s, s + "; ; " + s, s + "\n", s + "\x00", "\t" + s, strings.ToUpper(s), s + ", " + s, s + " x", s + " %", s + " 5"} {
			wantNoText(t, more, api.ErrBytes)
		}
		for at := range len(s) {
			wantParse(t, s[:at])
			wantParse(t, s[:at]+s[at+1:])
			if s[at] == ' ' {
				for _, other := range []string{"", "  ", "\t", "\n", " \t", "\u00a0", "%20", ",", ";"} {
					wantNoText(t, s[:at]+other+s[at+1:], api.ErrBytes)
				}
			}
		}
		words := strings.Fields(s)
		for i := range words {
			wantNoText(t, strings.Join(append(append([]string{}, words[:i]...), words[i+1:]...), " "), api.ErrBytes)
			wantNoText(t, strings.Join(append(append([]string{}, words[:i]...), append([]string{""}, words[i+1:]...)...), " "), api.ErrBytes)
		}
	}
	for _, s := range []string{"", " ", ";", "; ", "%", "get", "fly t k", "Get t k", "gett k", "1 t k", "put", "scan", "swap", "delete"} {
		wantNoText(t, s, api.ErrBytes)
	}
}

// P6.3: numbers have one text, and are at most MaxScan.
func TestNumbersInTexts(t *testing.T) {
	for _, n := range []string{"1", "5", "9", "10", "63", "64"} {
		if !wantParse(t, "scan t % % "+n) {
			t.Errorf("%s is no number", n)
		}
		for _, front := range []string{"0", "+", "-", "%", " ", "00", "0x", "_"} {
			wantNoText(t, "scan t % % "+front+n, api.ErrBytes)
		}
		for _, behind := range []string{".0", "e0", "_", "%", "000", "x"} {
			wantNoText(t, "scan t % % "+n+behind, api.ErrBytes)
		}
	}
	for _, n := range []string{"0", "65", "-0", "-1", "%35", "a", "1_0", "9223372036854775808", "18446744073709551617", "4294967301", "\u0665", strings.Repeat("9", 4000)} {
		wantNoText(t, "scan t % % "+n, api.ErrBytes)
	}
}

// P6.3: bytes have one text; tables are no texts of bytes.
func TestBytesInTexts(t *testing.T) {
	for _, s := range []string{
		"get t %61", "get t %2b", "get t %", "get t a%", "get t %%", "get t %2", "get t a,b", "get t a;b", "get t \x7f", "get t \xe9", "get t é", "get %74 k", "get % k", "get T k", "get t! k", "get " + a(17) + " k", "get t " + a(65),
		"put t k %76", "put t k v%20%21", "put t k " + a(257), "put t % v", "delete t %6B", "delete t %",
		"swap t k a b", "swap t k + b", "swap t k -% b", "swap t k -a b", "swap t k % b", "swap t k %2Ba b", "swap t k +%61 b", "swap t k +a %62", "swap t k +" + a(257) + " b", "swap t k - " + a(257), "swap t k -- b", "swap t k *a b", "swap t % - b",
		"scan t %61 % 5", "scan t % %7A 5", "scan t " + a(65) + " % 5", "scan t % " + a(65) + " 5", "scan t % % %",
	} {
		wantNoText(t, s, api.ErrBytes)
	}
	for b := range 256 {
		wantCall(t, call(put("t", string([]byte{byte(b)}), string([]byte{'a', byte(b)}))))
		wantCall(t, call(swap("t", "k", string([]byte{byte(b)}), ""), scan("t", string([]byte{byte(b)}), string([]byte{byte(b), byte(b)}), 1)))
		wantParse(t, "get t "+string([]byte{byte(b)}))
		wantParse(t, "get "+string([]byte{byte(b)})+" k")
		wantParse(t, "get t"+string([]byte{byte(b)})+"k k")
	}
}

// P6.3: how long a text is; a call that Check refuses has none.
func TestHowLongATextIs(t *testing.T) {
	wantNoText(t, a(3*4096), api.ErrBytes)
	wantNoText(t, a(3*4096+1), api.ErrLong)
	wantNoText(t, "get t k"+strings.Repeat("; get t k", 3000), api.ErrLong)
	wantNoText(t, "get t k"+strings.Repeat("; get t k", 1000), api.ErrBytes)
	wantNoText(t, "get t k"+strings.Repeat("; get t k", 16), api.ErrBytes)
	if !wantParse(t, "get t k"+strings.Repeat("; get t k", 15)) {
		t.Error("16 ops are no text")
	}
	wantNoText(t, strings.Repeat(" ", 1<<20), api.ErrLong)
	if !wantParse(t, plainText(sized(4096))) {
		t.Error("a call of 4096 bytes has no text")
	}
	long := sized(4097)
	wantNoText(t, plainText(long), api.ErrBytes)
	if s, e := calls.Text(long); s != "" || e != api.ErrLong {
		t.Errorf("Text of 4097 bytes: %.40q, %v", s, e)
	}
	if s, e := calls.Text(call(get("t", ""))); s != "" || e != api.ErrArg {
		t.Errorf("Text of a call that may not be: %.40q, %v", s, e)
	}
	most := times(16, swap(a(16), a(64), a(256), a(256)))
	wantNoText(t, plainText(most), api.ErrBytes)
}

// P6.4: the text of a call that Check takes is never too long to be read, even if each of its bytes takes three.
func TestLongestTextsAreRead(t *testing.T) {
	nought := func(many int) string { return string(make([]byte, many)) }
	for _, c := range []api.Call{
		times(16, put("t", nought(63), nought(186))), times(7, swap("t", nought(64), nought(256), nought(256))),
		times(16, swap("t", nought(1), nought(124), nought(123))), times(16, remove("t", nought(64))), times(16, remove("t", "k")),
		times(16, scan("t", nought(64), nought(64), 64)), times(16, scan("t", "", "", 64)), times(16, get("t", nought(64))), times(16, swap("t", "k", "", "")),
	} {
		form, e := calls.Bytes(c)
		s, e2 := calls.Text(c)
		if e != api.OK || e2 != api.OK || len(s) > 3*len(form) {
			t.Fatalf("%v, %v: %d bytes, a text of %d", e, e2, len(form), len(s))
		}
		wantCall(t, c)
	}
}
