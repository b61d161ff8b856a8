// Package whole reckons with whole numbers within bounds.
package whole

// Two numbers up to mostShared have a product that an int holds, and so have
// mostRounded and half of 2^mostBits a sum.
const (
	mostShared  = 1<<31 - 1
	mostRounded = 1 << 40
	mostBits    = 32
)

// Clip brings n to the bounds. Low is asked last, so that it wins where the
// bounds stand the wrong way round.
func Clip(n, low, high int) int {
	return max(low, min(n, high))
}

// Wrap brings n to -32 to 31 by multiples of 64. The lowest six bits are taken,
// as a remainder would have the sign of n.
func Wrap(n int) int {
	rest := n & 63
	if rest > 31 {
		return rest - 64
	}
	return rest
}

// Middle is the one in the middle, when a, b and c stand in order.
func Middle(a, b, c int) int {
	return max(min(a, b), min(max(a, b), c))
}

// Share is n times part, by all, rounded down. All is clipped ahead of part,
// which it bounds.
func Share(n, part, all int) int {
	n = Clip(n, 0, mostShared)
	all = Clip(all, 0, mostShared)
	part = Clip(part, 0, all)
	if all == 0 {
		return 0
	}
	return n * part / all
}

// Round is n by 2^bits, rounded to the nearest, halves up. A shift rounds down
// below 0 too, where a quotient would not.
func Round(n, bits int) int {
	n = Clip(n, -mostRounded, mostRounded)
	bits = Clip(bits, 0, mostBits)
	if bits == 0 {
		return n
	}
	return (n + 1<<(bits-1)) >> bits
}
