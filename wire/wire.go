// Package wire is layer 1: numbers, flags, texts and lists as bytes, in one form each, and these read again (shared/doc/01-wire.md).
package wire

import "wicket/api"

const (
	base      = 128 // of the digits, and what is added to all of them but the last one
	digitBits = 7
	lastPlace = 9 // of a digit, from 0 on: the tenth one has room for a single bit of a uint64
)

// Number is the form of a number.
func Number(n uint64) []byte {
	var form []byte
	for n >= base {
		form = append(form, byte(n%base)+base)
		n /= base
	}
	return append(form, byte(n))
}

// Signed is the form of a signed number.
func Signed(n int64) []byte {
	if n < 0 {
		// -2 n - 1, written so that no step leaves the range, of the least number either.
		return Number(2*uint64(-(n+1)) + 1)
	}
	return Number(2 * uint64(n))
}

// Flag is the form of a flag.
func Flag(is bool) []byte {
	if is {
		return []byte{1}
	}
	return []byte{0}
}

// Bytes is the form of bytes.
func Bytes(b []byte) []byte {
	return Join(Number(uint64(len(b))), b)
}

// Join is all bytes, one behind the other.
func Join(l ...[]byte) []byte {
	var all []byte
	for _, b := range l {
		all = append(all, b...)
	}
	return all
}

// Put is the form of a list, each thing's form told by a function.
func Put[T any](l []T, form func(T) []byte) ([]byte, api.Errno) {
	if form == nil {
		return nil, api.ErrNil
	}
	all := Number(uint64(len(l)))
	for _, thing := range l {
		// Taken over at once: form may answer the same memory each time.
		all = append(all, form(thing)...)
	}
	return all, api.OK
}
