package natural

import (
	"brindlewood/api"
	"math/bits"
)

// Bits returns the number of binary digits.
func Bits(a []uint32) (int, api.Fault) {
	if fault := checkOne(a); fault.Code != api.OK {
		return 0, fault
	}
	return countBits(a), api.Fault{}
}

// Shift returns a number times 2^n, rounded down.
func Shift(a []uint32, n int) ([]uint32, api.Fault) {
	if fault := checkOne(a); fault.Code != api.OK {
		return nil, fault
	}
	count := countBits(a)
	// The comparisons keep clear of -n and of count + n, which may exceed an int.
	if count == 0 || n <= -count {
		return nil, api.Fault{}
	}
	if n > limbBits*api.MaxNatural-count {
		return nil, api.Fault{Code: api.ErrTooLarge, Index: -1}
	}
	if n < 0 {
		return trim(shiftRight(a, -n)), api.Fault{}
	}
	return trim(shiftLeft(a, n)), api.Fault{}
}

// Sqrt returns the square root, rounded down.
func Sqrt(a []uint32) ([]uint32, api.Fault) {
	if fault := checkOne(a); fault.Code != api.OK {
		return nil, fault
	}
	if len(a) == 0 {
		return nil, api.Fault{}
	}
	return root(a), api.Fault{}
}

// root returns the square root of a number other than 0 by Newton's method, which descends from any greater start to the result.
func root(a []uint32) []uint32 {
	current := trim(shiftLeft([]uint32{1}, (countBits(a)+1)/2))
	for {
		quotient, _ := divide(a, current)
		next := trim(shiftRight(sum(current, quotient), 1))
		if compare(next, current) >= 0 {
			return current
		}
		current = next
	}
}

// countBits returns the number of binary digits.
func countBits(a []uint32) int {
	if len(a) == 0 {
		return 0
	}
	last := len(a) - 1
	return limbBits*last + bits.Len32(a[last])
}

// shiftLeft returns a * 2^n with n / 32 + 1 more limbs, the last of which may be 0.
func shiftLeft(a []uint32, n int) []uint32 {
	whole, part := n/limbBits, n%limbBits
	result := make([]uint32, len(a)+whole+1)
	for i, limb := range a {
		wide := uint64(limb) << part
		result[whole+i] |= uint32(wide)
		result[whole+i+1] = uint32(wide >> limbBits)
	}
	return result
}

// shiftRight returns a / 2^n, rounded down, with n / 32 fewer limbs, the last of which may be 0; n is less than the number of bits of all limbs.
func shiftRight(a []uint32, n int) []uint32 {
	whole, part := n/limbBits, n%limbBits
	result := make([]uint32, len(a)-whole)
	var above uint32
	for i := len(a) - 1; i >= whole; i-- {
		wide := uint64(above)<<limbBits | uint64(a[i])
		result[i-whole] = uint32(wide >> part)
		above = a[i]
	}
	return result
}
