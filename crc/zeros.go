package crc

// A step is what some number of bytes 0 does to a sum whose bits are not turned.
// They make of a xor of two sums the xor of what they make of each, so what becomes
// of each single bit says all: the word i is what becomes of bit i.
type step [32]uint32

// behindZeros tells what becomes of s, whose bits are not turned, as n bytes 0 pass.
// Each bit of n takes one square, so that it ends soon at the greatest n.
func behindZeros(s uint32, n int) uint32 {
	if n <= 0 {
		return s
	}
	by := oneZero()
	for ; n > 1; n >>= 1 {
		if n&1 == 1 {
			s = after(by, s)
		}
		by = square(by)
	}
	return after(by, s)
}

// oneZero tells the step of a single byte 0.
func oneZero() step {
	table := nibbles()
	var one step
	for i := range one {
		one[i] = behind(table, 1<<i, []byte{0})
	}
	return one
}

// square tells the step of twice as many bytes.
func square(by step) step {
	var twice step
	for i, w := range by {
		twice[i] = after(by, w)
	}
	return twice
}

// after tells what a step makes of s.
func after(by step, s uint32) uint32 {
	var sum uint32
	for _, w := range by {
		sum ^= w & -(s & 1)
		s >>= 1
	}
	return sum
}
