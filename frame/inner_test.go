package frame

import (
	"math"
	"testing"

	"wicket/api"
)

// P4.1: a body of just MaxBody bytes goes. Its frame would take minutes and gigabytes; that it is not refused does not.
func TestBodyOfMaxBody(t *testing.T) {
	if math.MaxInt == math.MaxInt32 {
		t.Skip("no body is so long here")
	}
	most := api.MaxBody
	long := make([]byte, most+1)
	for n, want := range map[int]api.Errno{most - 1: api.OK, most: api.OK, most + 1: api.ErrLong} {
		if e := refusal([]api.Frame{{Kind: 1}, {Kind: 255, Body: long[:n]}}); e != want {
			t.Errorf("a body of %d bytes: %v, want %v", n, e, want)
		}
	}
}

// P4.2: a header's four bytes of length are read in full.
func TestLengths(t *testing.T) {
	for _, n := range []uint32{0, 1, 255, 256, 65535, 65536, 1<<24 - 1, 1 << 24, 0x01020304, api.MaxBody, 1 << 31, math.MaxUint32} {
		h := [headerSize]byte{9, byte(n >> 24), byte(n >> 16), byte(n >> 8), byte(n), 9, 9, 9, 9}
		if got := length(h); got != n {
			t.Errorf("the length % x is %d", h, got)
		}
	}
}
