package crc_test

import (
	"bytes"
	"hash/crc32"
	"math"
	"math/rand"
	"slices"
	"testing"

	"wicket/crc"
)

// byWords is the sum as the chapter's section 'Words' says it, bit by bit.
func byWords(b []byte) uint32 {
	s := uint32(math.MaxUint32)
	for _, x := range b {
		s ^= uint32(x)
		for range 8 {
			if s%2 == 1 {
				s = s/2 ^ 2197175160
			} else {
				s /= 2
			}
		}
	}
	return s ^ math.MaxUint32
}

func someBytes(r *rand.Rand, n int) []byte {
	b := make([]byte, n)
	r.Read(b)
	return b
}

func wantSum(t *testing.T, what string, got, want uint32) {
	t.Helper()
	if got != want {
		t.Errorf("%s is %d, want %d", what, got, want)
	}
}

// P2.1: the chapter's examples, and sums of nothing, however it is split.
func TestSum(t *testing.T) {
	wantSum(t, "Sum()", crc.Sum(), 0)
	wantSum(t, "Sum of no pieces", crc.Sum([][]byte{}...), 0)
	wantSum(t, "Sum(nil)", crc.Sum(nil), 0)
	wantSum(t, "Sum of empty pieces", crc.Sum(nil, []byte{}, nil), 0)
	wantSum(t, "Sum(123456789)", crc.Sum([]byte("123456789")), 3808858755)
	wantSum(t, "Sum(a)", crc.Sum([]byte("a")), 3251651376)
	wantSum(t, "Sum of four bytes 0", crc.Sum(make([]byte, 4)), 1214729159)
	wantSum(t, "Sum(1, 23456789)", crc.Sum([]byte("1"), []byte("23456789")), 3808858755)
	wantSum(t, "Sum with empty pieces between", crc.Sum(nil, []byte("1234"), []byte{}, []byte("5"), nil, []byte("6789"), []byte{}), 3808858755)
}

// P2.1: each single byte and many texts have the sum that the words say, and that the library's CRC-32C says.
func TestSumIsTheSumOfTheWords(t *testing.T) {
	castagnoli := crc32.MakeTable(crc32.Castagnoli)
	r := rand.New(rand.NewSource(2))
	texts := [][]byte{bytes.Repeat([]byte{255}, 32), make([]byte, 32), someBytes(r, 1<<16)}
	for x := range 256 {
		texts = append(texts, []byte{byte(x)}, []byte{0, byte(x), 255})
	}
	for n := range 200 {
		texts = append(texts, someBytes(r, n))
	}
	for _, b := range texts {
		wantSum(t, "Sum", crc.Sum(b), byWords(b))
		wantSum(t, "Sum", crc.Sum(b), crc32.Checksum(b, castagnoli))
	}
}

// P2.1: where pieces end makes no difference.
func TestSumOfPieces(t *testing.T) {
	r := rand.New(rand.NewSource(3))
	for range 200 {
		var l [][]byte
		for range r.Intn(6) {
			l = append(l, someBytes(r, r.Intn(40)))
		}
		wantSum(t, "Sum of pieces", crc.Sum(l...), byWords(slices.Concat(l...)))
	}
}

// P2.2: More.
func TestMore(t *testing.T) {
	wantSum(t, "More(Sum(12345), 6789)", crc.More(crc.Sum([]byte("12345")), []byte("6789")), 3808858755)
	wantSum(t, "More(0, 123456789)", crc.More(0, []byte("123456789")), 3808858755)
	for _, s := range []uint32{0, 1, 7, 3808858755, 1 << 31, math.MaxUint32} {
		wantSum(t, "More of nil", crc.More(s, nil), s)
		wantSum(t, "More of nothing", crc.More(s, []byte{}), s)
	}
}

// P2.4: More of Sum is Sum of both.
func TestMoreOfSum(t *testing.T) {
	r := rand.New(rand.NewSource(4))
	for i := range 300 {
		a, b := someBytes(r, i%41), someBytes(r, i%37)
		want := byWords(slices.Concat(a, b))
		wantSum(t, "More of Sum", crc.More(crc.Sum(a), b), want)
		wantSum(t, "Sum of both", crc.Sum(a, b), want)
	}
}

// P2.3: Holds, of a right sum and of wrong ones.
func TestHolds(t *testing.T) {
	text := []byte("123456789")
	if !crc.Holds(text, 3808858755) || !crc.Holds(nil, 0) || !crc.Holds([]byte{}, 0) || !crc.Holds(make([]byte, 4), 1214729159) {
		t.Error("Holds is false of a right sum")
	}
	for i := range 32 {
		if crc.Holds(text, 3808858755^1<<i) || crc.Holds(nil, 1<<i) {
			t.Errorf("Holds is true of a sum that is wrong in bit %d", i)
		}
	}
	for i := range text {
		if crc.Holds(text[:i], 3808858755) || crc.Holds(slices.Concat(text[:i], []byte("x"), text[i+1:]), 3808858755) {
			t.Errorf("Holds is true of wrong bytes at %d", i)
		}
	}
	if crc.Holds([]byte("123456788"), 3808858755) || crc.Holds([]byte("1234567890"), 3808858755) || crc.Holds(nil, 3808858755) || crc.Holds(nil, math.MaxUint32) {
		t.Error("Holds is true of wrong bytes")
	}
}

// Nothing that is handed in is changed, spare room included.
func TestHandedInStays(t *testing.T) {
	room := []byte("1234567890abcdef")
	l := make([][]byte, 2, 4)
	l[0], l[1] = room[:4], room[4:9]
	l[:4][2] = room[9:12]
	crc.Sum(l...)
	crc.More(1, room[:9])
	crc.Holds(room[:9], 2)
	if string(room) != "1234567890abcdef" {
		t.Errorf("the bytes are %q now", room)
	}
	if string(l[0]) != "1234" || string(l[1]) != "56789" || string(l[:4][2]) != "0ab" || l[:4][3] != nil {
		t.Errorf("the pieces are %q now", l[:4])
	}
}
