// Package word is layer 1, arithmetic on 128-bit unsigned integers: see shared/doc/01-word.md.
package word

import (
	"cmp"
	"math/bits"

	"hairsbreadth/api"
)

// Add returns a + b modulo 2^128, and whether there is a carry.
func Add(a, b api.Bits) (api.Bits, bool) {
	lo, mid := bits.Add64(a.Lo, b.Lo, 0)
	hi, carry := bits.Add64(a.Hi, b.Hi, mid)
	return api.Bits{Hi: hi, Lo: lo}, carry != 0
}

// Sub returns a - b modulo 2^128, and whether there is a borrow.
func Sub(a, b api.Bits) (api.Bits, bool) {
	lo, mid := bits.Sub64(a.Lo, b.Lo, 0)
	hi, borrow := bits.Sub64(a.Hi, b.Hi, mid)
	return api.Bits{Hi: hi, Lo: lo}, borrow != 0
}

// Cmp returns -1, 0 or 1 if a is less than, equal to or greater than b.
func Cmp(a, b api.Bits) int {
	return firstUnequal(cmp.Compare(a.Hi, b.Hi), cmp.Compare(a.Lo, b.Lo))
}

// firstUnequal takes the orders of the digits of two numbers, the most
// significant first: a digit counts only if all those above it are equal.
func firstUnequal(orders ...int) int {
	for _, order := range orders {
		if order != 0 {
			return order
		}
	}
	return 0
}

// Mul returns the full product of a and b.
func Mul(a, b uint64) api.Bits {
	hi, lo := bits.Mul64(a, b)
	return api.Bits{Hi: hi, Lo: lo}
}

// Bit reports whether bit i of a is 1; there is none below 0 or above 127.
func Bit(a api.Bits, i int) bool {
	switch {
	case i < 0 || i > 127: // a negative shift count would panic
		return false
	case i < 64:
		return a.Lo>>i&1 == 1
	default:
		return a.Hi>>(i-64)&1 == 1
	}
}

// Zero reports whether a is 0.
func Zero(a api.Bits) bool {
	return a == api.Bits{}
}
