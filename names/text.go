package names

import (
	"strings"

	"wicket/api"
)

const (
	// noBytes is the text of no bytes: a text is a word among others, and a word without signs could not be seen.
	noBytes = "%"
	digits  = "0123456789ABCDEF"
)

// Text is b as a text.
func Text(b []byte) string {
	if len(b) == 0 {
		return noBytes
	}
	s := make([]byte, 0, len(b))
signs:
	for _, c := range b {
		switch {
		case goesAsItIs(c):
			s = append(s, c)
			continue signs
		}
		s = append(s, '%', digits[c>>4], digits[c&15])
	}
	return string(s)
}

// Read is the bytes whose text is s.
func Read(s string) ([]byte, api.Errno) {
	if s == noBytes {
		return nil, api.OK
	}
	b := make([]byte, 0, len(s))
	rest := s
signs:
	for len(rest) > 0 {
		c, size := firstByte(rest)
		switch size {
		case 0:
			break signs
		}
		b = append(b, c)
		rest = rest[size:]
	}
	if len(b) == 0 || len(rest) > 0 {
		return nil, api.ErrBytes
	}
	return copied(b), api.OK
}

// firstByte is the byte that s begins with, and how many bytes of s say it; 0, if they say none.
func firstByte(s string) (c byte, size int) {
	if goesAsItIs(s[0]) {
		return s[0], 1
	}
	if s[0] != '%' || len(s) < 3 {
		return 0, 0
	}
	high, low := strings.IndexByte(digits, s[1]), strings.IndexByte(digits, s[2])
	if high < 0 || low < 0 {
		return 0, 0
	}
	// Bytes have one text: a byte that goes as it is goes no other way.
	if c = byte(high<<4 | low); goesAsItIs(c) {
		return 0, 0
	}
	return c, 3
}

// goesAsItIs: does c stand for itself in a text? Not '%', which begins the bytes that do not, and not blanks,
// commas and semicolons, which may part words.
func goesAsItIs(c byte) bool {
	switch {
	case c < 33:
		fallthrough
	case c > 126:
		fallthrough
	case c == '%', c == ',', c == ';':
		return false
	}
	return true
}
