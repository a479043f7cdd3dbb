package crc_test

import (
	"math/rand"
	"slices"
	"testing"

	"wicket/crc"
)

func xored(l ...[]byte) []byte {
	out := slices.Clone(l[0])
	for _, b := range l[1:] {
		for i, x := range b {
			out[i] ^= x
		}
	}
	return out
}

// P2.4: sums of three pieces that are as long.
func TestThreePiecesXored(t *testing.T) {
	r := rand.New(rand.NewSource(9))
	for n := range 300 {
		a, b, c := someBytes(r, n), someBytes(r, n), someBytes(r, n)
		wantSum(t, "three sums xor-ed", crc.Sum(a)^crc.Sum(b)^crc.Sum(c), crc.Sum(xored(a, b, c)))
	}
}

func flip(b []byte, bits ...int) {
	for _, i := range bits {
		b[i/8] ^= 1 << (i % 8)
	}
}

// P2.4: every choice of one to three bits of a short text.
func TestFewBitsOfAShortText(t *testing.T) {
	b := []byte("wicket")
	sum, n := crc.Sum(b), 8*len(b)
	for i := range n {
		for j := i; j < n; j++ {
			for k := j; k < n; k++ {
				bits := slices.Compact([]int{i, j, k})
				flip(b, bits...)
				if crc.Holds(b, sum) {
					t.Fatalf("the sum is as it was with the bits %v turned", bits)
				}
				flip(b, bits...)
			}
		}
	}
}

// P2.4: some choices of one to three bits, in texts of up to 2^16 bytes.
func TestFewBitsOfLongTexts(t *testing.T) {
	r := rand.New(rand.NewSource(10))
	for _, n := range []int{1, 2, 100, 1<<12 + 1, 1<<16 - 1, 1 << 16} {
		b := someBytes(r, n)
		sum := crc.Sum(b)
		for _, bits := range [][]int{{0}, {8*n - 1}, {0, 8*n - 1}, {0, 1, 8*n - 1}, {r.Intn(8 * n)}, {4 * n, 8*n - 1}} {
			flip(b, bits...)
			if crc.Holds(b, sum) {
				t.Errorf("of %d bytes the sum is as it was with the bits %v turned", n, bits)
			}
			flip(b, bits...)
		}
	}
}

// turns tells, for each bit of a text of n bytes, from the last byte to the first one, what turning it turns in the sum:
// sums of three texts xor-ed are the sum of the texts xor-ed, so that this hangs on the bit's place alone.
func turns(n int) []uint32 {
	var l []uint32
	for i := range 8 {
		l = append(l, crc.Sum([]byte{1 << i})^crc.Sum([]byte{0}))
	}
	for i := range 8 * (n - 1) {
		l = append(l, crc.Zeros(l[i], 1)^crc.Zeros(0, 1))
	}
	return l
}

// P2.4: all choices of one to three bits of 2^16 bytes: bytes 0 that pass keep what differs apart,
// so that it is enough to look at choices that have a bit in the last byte.
func TestFewBitsOf2To16Bytes(t *testing.T) {
	l := turns(1 << 16)
	rising := slices.Clone(l)
	slices.Sort(rising)
	if rising[0] == 0 {
		t.Error("a bit turns nothing")
	}
	if len(slices.Compact(slices.Clone(rising))) != len(l) {
		t.Error("two bits turn the same")
	}
	seen := make(map[uint32]int, len(l))
	for i, x := range l {
		seen[x] = i
	}
	for last := range 8 {
		for i, x := range l {
			if k, ok := seen[x^l[last]]; ok && i != last {
				t.Fatalf("the bits %d, %d and %d turn nothing together", last, i, k)
			}
		}
	}
}

// P2.4: texts that differ within 32 bits that follow each other, wherever they begin.
func TestBitsThatFollow(t *testing.T) {
	r := rand.New(rand.NewSource(11))
	b := someBytes(r, 24)
	sum := crc.Sum(b)
	for first := range 8*len(b) - 31 {
		for range 200 {
			word := r.Uint32() | 1
			var bits []int
			for i := range 32 {
				if word>>i&1 == 1 {
					bits = append(bits, first+i)
				}
			}
			flip(b, bits...)
			if crc.Holds(b, sum) {
				t.Fatalf("the sum is as it was with the bits %v turned", bits)
			}
			flip(b, bits...)
		}
	}
}

// P2.4: of 32 bits that follow each other no choice at all turns nothing, as they can be told apart one by one.
func TestAllChoicesOf32BitsThatFollow(t *testing.T) {
	const bytes = 6
	back := turns(bytes)
	for first := range 8*bytes - 31 {
		var l []uint32
		for i := first; i < first+32; i++ {
			l = append(l, back[8*(bytes-1-i/8)+i%8])
		}
		if rank(l) != 32 {
			t.Errorf("some of the 32 bits from %d on turn nothing together", first)
		}
	}
}

// rank tells how many of l are no xor of others that it counts.
func rank(l []uint32) int {
	var by [32]uint32
	n := 0
	for _, x := range l {
		for i := 31; i >= 0 && x != 0; i-- {
			if x>>i == 0 {
				continue
			}
			if by[i] == 0 {
				by[i] = x
				n++
				break
			}
			x ^= by[i]
		}
	}
	return n
}
