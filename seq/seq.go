// Package seq is layer 1: see shared/doc/01-seq.md.
package seq

import (
	"math"
	"math/bits"

	"tideway/api"
)

// rootBits is how many bits the cube root of the greatest int has: 2^21 cubed is 2^63, one too many.
const rootBits = 21

// Diff answers how far b is ahead of a, from -2^31 to 2^31 - 1.
func Diff(a uint32, b uint32) int { return int(int32(b - a)) }

// Less tells whether a stands ahead of b. Of two that are 2^31 apart neither does.
func Less(a uint32, b uint32) bool { return Diff(a, b) > 0 }

// Add adds modulo 2^32.
func Add(a uint32, n int) uint32 { return a + uint32(n) }

// Unwrap answers the number nearest to base that is s modulo 2^32, as far as an int reaches.
func Unwrap(base int, s uint32) int { return Sum(base, Diff(uint32(base), s)) }

// Within tells whether x is one of the n numbers from low on, modulo 2^32.
func Within(x uint32, low uint32, n uint32) bool { return x-low < n }

// Sum adds, and stays at the greatest or the least int where the sum would go beyond it.
func Sum(a int, b int) int {
	if b > 0 && a > math.MaxInt-b {
		return math.MaxInt
	}
	if b < 0 && a < math.MinInt-b {
		return math.MinInt
	}
	return a + b
}

// Clamp keeps x from low to high. It answers low where low is above high.
func Clamp(x int, low int, high int) int {
	if x < low || low > high {
		return low
	}
	if x > high {
		return high
	}
	return x
}

// MulDiv answers a times b by c, downwards, at most the greatest int.
func MulDiv(a int, b int, c int) (int, api.Errno) {
	if a < 0 || b < 0 || c <= 0 {
		return 0, api.ErrArg
	}
	high, low := bits.Mul64(uint64(a), uint64(b))
	// Div64 panics where the quotient has more than 64 bits.
	if high >= uint64(c) {
		return math.MaxInt, api.OK
	}
	quotient, _ := bits.Div64(high, low, uint64(c))
	return int(min(quotient, math.MaxInt)), api.OK
}

// Cbrt answers the greatest number whose cube is at most n, and 0 where n is below 0.
func Cbrt(n int) int {
	root := 0
	for i := range rootBits {
		more := root | 1<<(rootBits-1-i)
		// more has at most rootBits bits, so that its cube stays within an int.
		if more*more*more <= n {
			root = more
		}
	}
	return root
}
