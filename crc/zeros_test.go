package crc_test

import (
	"math"
	"math/rand"
	"slices"
	"testing"

	"wicket/crc"
)

// round is how many bytes 0 leave every sum as it was: of CRC-32C the bits come round
// behind 2^31 - 1 of them, which is odd, so that bytes come round behind as many.
const round = 1<<31 - 1

// P2.2: Zeros, at the edges.
func TestZeros(t *testing.T) {
	wantSum(t, "Zeros(0, 4)", crc.Zeros(0, 4), 1214729159)
	wantSum(t, "Zeros(7, -1)", crc.Zeros(7, -1), 7)
	for _, s := range []uint32{0, 1, 7, 3808858755, 1 << 31, math.MaxUint32} {
		for _, n := range []int{0, -1, -2, -8, -1 << 20, math.MinInt32, math.MinInt, math.MinInt + 1} {
			wantSum(t, "Zeros of none", crc.Zeros(s, n), s)
		}
		wantSum(t, "Zeros of a whole round", crc.Zeros(s, round), s)
		wantSum(t, "Zeros of the greatest int", crc.Zeros(s, math.MaxInt), crc.Zeros(s, math.MaxInt%round))
		wantSum(t, "Zeros of the greatest int less 1", crc.Zeros(s, math.MaxInt-1), crc.Zeros(s, (math.MaxInt-1)%round))
	}
}

// P2.2: Zeros is More of as many bytes 0.
func TestZerosIsMoreOfBytes0(t *testing.T) {
	r := rand.New(rand.NewSource(5))
	for n := range 300 {
		s := r.Uint32()
		wantSum(t, "Zeros", crc.Zeros(s, n), crc.More(s, make([]byte, n)))
	}
	for i := range 17 {
		for _, n := range []int{1<<i - 1, 1 << i, 1<<i + 1} {
			b := someBytes(r, 9)
			wantSum(t, "Zeros", crc.Zeros(crc.Sum(b), n), byWords(slices.Concat(b, make([]byte, n))))
		}
	}
}

// P2.2: at great n it hangs together: n bytes and m behind them are n and m bytes.
func TestZerosOfZeros(t *testing.T) {
	r := rand.New(rand.NewSource(6))
	for range 300 {
		s, n, m := r.Uint32(), r.Intn(math.MaxInt/2), r.Intn(math.MaxInt/2)
		wantSum(t, "Zeros of Zeros", crc.Zeros(crc.Zeros(s, n), m), crc.Zeros(s, n+m))
	}
}

// P2.3: Join, at the edges: pieces of no bytes at either side.
func TestJoin(t *testing.T) {
	text := []byte("123456789")
	wantSum(t, "Join(Sum(1234), Sum(56789), 5)", crc.Join(crc.Sum([]byte("1234")), crc.Sum([]byte("56789")), 5), 3808858755)
	wantSum(t, "Join(9, 0, 0)", crc.Join(9, 0, 0), 9)
	wantSum(t, "Join of nothing and nothing", crc.Join(crc.Sum(), crc.Sum(), 0), 0)
	wantSum(t, "Join of nothing and a text", crc.Join(crc.Sum(), crc.Sum(text), len(text)), 3808858755)
	wantSum(t, "Join of a text and nothing", crc.Join(crc.Sum(text), crc.Sum(), 0), 3808858755)
	for _, n := range []int{-1, -5, math.MinInt32, math.MinInt} {
		wantSum(t, "Join below 0", crc.Join(crc.Sum(text), crc.Sum(), n), 3808858755)
		wantSum(t, "Join below 0", crc.Join(5, 6, n), crc.Join(5, 6, 0))
	}
}

// P2.3: Join at great n: behind a text come as many bytes 0 as an int can say.
func TestJoinOfGreatPieces(t *testing.T) {
	r := rand.New(rand.NewSource(7))
	for _, n := range []int{1 << 16, 1 << 30, round, math.MaxInt - 1, math.MaxInt, r.Intn(math.MaxInt)} {
		s := r.Uint32()
		wantSum(t, "Join", crc.Join(s, crc.Zeros(0, n), n), crc.Zeros(s, n))
	}
}

// P2.4: Join of two sums is the sum of both pieces, one behind the other.
func TestJoinOfSums(t *testing.T) {
	r := rand.New(rand.NewSource(8))
	for n := range 300 {
		a, b := someBytes(r, r.Intn(80)), someBytes(r, n)
		wantSum(t, "Join", crc.Join(crc.Sum(a), crc.Sum(b), n), byWords(slices.Concat(a, b)))
	}
	a, b := someBytes(r, 1<<16), someBytes(r, 1<<16+1)
	wantSum(t, "Join", crc.Join(crc.Sum(a), crc.Sum(b), len(b)), byWords(slices.Concat(a, b)))
}
