package names_test

import (
	"strings"
	"testing"

	"wicket/api"
	"wicket/names"
)

// The chapter's section 'Examples', its first row.
func TestExamplesOfNames(t *testing.T) {
	if !names.Table("a0") || names.Table("A") || names.Table("") {
		t.Errorf("Table of a0, of A, of nothing: %v, %v, %v", names.Table("a0"), names.Table("A"), names.Table(""))
	}
	if names.Key(nil) || names.Key([]byte{}) || !names.Value(nil) || !names.Value([]byte{}) {
		t.Errorf("Key, Value of nothing: %v, %v", names.Key(nil), names.Value(nil))
	}
}

// P5.1: a table's name has 1 to 16 bytes, each a to z or 0 to 9.
func TestTableByLength(t *testing.T) {
	for n := range 70 {
		for _, sign := range []string{"a", "z", "0", "9", "m"} {
			if got, want := names.Table(strings.Repeat(sign, n)), 1 <= n && n <= 16; got != want {
				t.Errorf("Table of %d times %s: %v", n, sign, got)
			}
		}
	}
	for _, n := range []int{256, 257, 272, 65536 + 1, 1 << 20} {
		if names.Table(strings.Repeat("a", n)) {
			t.Errorf("Table of %d bytes: true", n)
		}
	}
	if !names.Table("abcdefghijklmnop") || !names.Table("qrstuvwxyz012345") || !names.Table("6789") {
		t.Error("Table of each byte that may be in a name: false")
	}
}

// P5.1: each byte from 0 to 255, alone, first, last and between others.
func TestTableByBytes(t *testing.T) {
	const may = "abcdefghijklmnopqrstuvwxyz0123456789"
	for c := range 256 {
		sign := string([]byte{byte(c)})
		want := strings.Contains(may, sign)
		for _, s := range []string{sign, sign + "a", "a" + sign, "a" + sign + "0", "abcdefghijklmno" + sign, sign + "abcdefghijklmno"} {
			if got := names.Table(s); got != want {
				t.Errorf("Table(%q): %v", s, got)
			}
		}
	}
	for _, s := range []string{" a", "a ", "a b", "a\x00", "ä", "tablé", "\xff", "a_b", "a-b", "٣", "ａ"} {
		if names.Table(s) {
			t.Errorf("Table(%q): true", s)
		}
	}
}

// P5.1: keys of 1 to 64 bytes, values of 0 to 256, whatever the bytes are.
func TestKeysAndValuesByLength(t *testing.T) {
	for _, fill := range []byte{0, 'a', '%', 255} {
		long := []byte(strings.Repeat(string([]byte{fill}), 1<<17))
		for n := range 600 {
			wantKeyAndValue(t, long[:n])
		}
		for _, n := range []int{1 << 16, 1<<16 + 1, 1<<16 + 64, 1<<16 + 256, 1 << 17} {
			wantKeyAndValue(t, long[:n])
		}
	}
	wantKeyAndValue(t, nil)
	for c := range 256 {
		wantKeyAndValue(t, []byte{byte(c)})
	}
}

func wantKeyAndValue(t *testing.T, b []byte) {
	t.Helper()
	if got, want := names.Key(b), 1 <= len(b) && len(b) <= 64; got != want {
		t.Errorf("Key of %d bytes, %.5q: %v", len(b), b, got)
	}
	if got, want := names.Value(b), len(b) <= 256; got != want {
		t.Errorf("Value of %d bytes, %.5q: %v", len(b), b, got)
	}
}

// P5.1: just the bounds that package api names.
func TestBounds(t *testing.T) {
	if !names.Table(strings.Repeat("a", api.MaxName)) || names.Table(strings.Repeat("a", api.MaxName+1)) {
		t.Error("Table at MaxName")
	}
	if !names.Key(make([]byte, api.MaxKey)) || names.Key(make([]byte, api.MaxKey+1)) {
		t.Error("Key at MaxKey")
	}
	if !names.Value(make([]byte, api.MaxValue)) || names.Value(make([]byte, api.MaxValue+1)) {
		t.Error("Value at MaxValue")
	}
}
