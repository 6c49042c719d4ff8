// Package natural computes with natural numbers of many limbs: digits to the base 1<<32, the least significant one first, without a leading zero.
package natural

import (
	"brindlewood/api"
	"math/bits"
)

// The number of binary digits of a limb, and the greatest limb.
const (
	limbBits = 32
	maxLimb  = 1<<limbBits - 1
)

// Valid reports whether a list of limbs is a natural number.
func Valid(a []uint32) bool {
	if len(a) == 0 {
		return true
	}
	return len(a) <= api.MaxNatural && a[len(a)-1] != 0
}

// Cmp compares two numbers.
func Cmp(a, b []uint32) (int, api.Fault) {
	if fault := checkBoth(a, b); fault.Code != api.OK {
		return 0, fault
	}
	return compare(a, b), api.Fault{}
}

// Add returns the sum of two numbers.
func Add(a, b []uint32) ([]uint32, api.Fault) {
	if fault := checkBoth(a, b); fault.Code != api.OK {
		return nil, fault
	}
	return limited(sum(a, b))
}

// Sub returns the difference of two numbers.
func Sub(a, b []uint32) ([]uint32, api.Fault) {
	if fault := checkBoth(a, b); fault.Code != api.OK {
		return nil, fault
	}
	if compare(a, b) < 0 {
		return nil, api.Fault{Code: api.ErrRange, Index: -2}
	}
	return difference(a, b), api.Fault{}
}

// Mul returns the product of two numbers.
func Mul(a, b []uint32) ([]uint32, api.Fault) {
	if fault := checkBoth(a, b); fault.Code != api.OK {
		return nil, fault
	}
	return limited(product(a, b))
}

// checkOne returns the fault of a single argument.
func checkOne(a []uint32) api.Fault {
	if !Valid(a) {
		return api.Fault{Code: api.ErrForm, Index: -1}
	}
	return api.Fault{}
}

// checkBoth returns the fault of the first of two arguments that is not valid.
func checkBoth(a, b []uint32) api.Fault {
	if fault := checkOne(a); fault.Code != api.OK {
		return fault
	}
	if !Valid(b) {
		return api.Fault{Code: api.ErrForm, Index: -2}
	}
	return api.Fault{}
}

// limited returns a result, unless it has too many limbs.
func limited(a []uint32) ([]uint32, api.Fault) {
	if len(a) > api.MaxNatural {
		return nil, api.Fault{Code: api.ErrTooLarge, Index: -1}
	}
	return a, api.Fault{}
}

// trim returns a list of limbs without its leading zeros, in the same memory.
func trim(a []uint32) []uint32 {
	for len(a) > 0 && a[len(a)-1] == 0 {
		a = a[:len(a)-1]
	}
	return a
}

// compare returns -1, 0 or 1 if a is less than, equal to or greater than b.
func compare(a, b []uint32) int {
	if len(a) != len(b) {
		return sign(len(a) < len(b))
	}
	for i := len(a) - 1; i >= 0; i-- {
		if a[i] != b[i] {
			return sign(a[i] < b[i])
		}
	}
	return 0
}

// sign returns how two unequal numbers compare.
func sign(less bool) int {
	if less {
		return -1
	}
	return 1
}

// sum returns a + b, of any size.
func sum(a, b []uint32) []uint32 {
	if len(a) < len(b) {
		a, b = b, a
	}
	result := make([]uint32, len(a)+1)
	var carry uint32
	for i := range len(b) {
		result[i], carry = bits.Add32(a[i], b[i], carry)
	}
	for i := len(b); i < len(a); i++ {
		result[i], carry = bits.Add32(a[i], 0, carry)
	}
	result[len(a)] = carry
	return trim(result)
}

// difference returns a - b, where b is not greater than a.
func difference(a, b []uint32) []uint32 {
	result := make([]uint32, len(a))
	var borrow uint32
	for i := range len(b) {
		result[i], borrow = bits.Sub32(a[i], b[i], borrow)
	}
	for i := len(b); i < len(a); i++ {
		result[i], borrow = bits.Sub32(a[i], 0, borrow)
	}
	return trim(result)
}

// product returns a * b, of any size.
func product(a, b []uint32) []uint32 {
	result := make([]uint32, len(a)+len(b))
	for i, limb := range a {
		result[i+len(b)] = addMultiple(result[i:i+len(b)], b, limb)
	}
	return trim(result)
}

// addMultiple adds factor * b to as many limbs of total, and returns what is carried beyond them.
func addMultiple(total, b []uint32, factor uint32) uint32 {
	var carry uint64
	for i, limb := range b {
		// The greatest value is (2^32-1)^2 + 2*(2^32-1), which is 2^64-1.
		carry += uint64(limb)*uint64(factor) + uint64(total[i])
		total[i] = uint32(carry)
		carry >>= limbBits
	}
	return uint32(carry)
}
