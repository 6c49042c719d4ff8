package natural

import (
	"brindlewood/api"
	"slices"
)

// The bases that digits can have.
const (
	minBase = 2
	maxBase = 36
)

// Digits returns the digits of a number to a base, the most significant one first; none for 0.
func Digits(a []uint32, base int) ([]int, api.Fault) {
	if fault := checkOne(a); fault.Code != api.OK {
		return nil, fault
	}
	if fault := checkBase(base); fault.Code != api.OK {
		return nil, fault
	}
	power, width := largestPower(base)
	rest := slices.Clone(a)
	var digits []int
	for len(rest) > 0 {
		group := int(divideBySmall(rest, power))
		rest = trim(rest)
		for range width {
			digits = append(digits, group%base)
			group /= base
		}
	}
	for len(digits) > 0 && digits[len(digits)-1] == 0 {
		digits = digits[:len(digits)-1]
	}
	slices.Reverse(digits)
	return digits, api.Fault{}
}

// From returns the number with some digits to a base.
func From(digits []int, base int) ([]uint32, api.Fault) {
	if fault := checkBase(base); fault.Code != api.OK {
		return nil, fault
	}
	for i, digit := range digits {
		if digit < 0 || digit >= base {
			return nil, api.Fault{Code: api.ErrRange, Index: i}
		}
	}
	_, width := largestPower(base)
	var result []uint32
	// Further digits never make a number smaller, so the rest of a number that is too large need not be read.
	for len(digits) > 0 && len(result) <= api.MaxNatural {
		count := min(width, len(digits))
		result = appendGroup(result, digits[:count], base)
		digits = digits[count:]
	}
	return limited(result)
}

// checkBase returns the fault of a base.
func checkBase(base int) api.Fault {
	if base < minBase || base > maxBase {
		return api.Fault{Code: api.ErrRange, Index: -2}
	}
	return api.Fault{}
}

// largestPower returns the largest power of a base that is a limb, and its exponent.
func largestPower(base int) (uint32, int) {
	power, exponent := 1, 0
	for power*base <= maxLimb {
		power *= base
		exponent++
	}
	return uint32(power), exponent
}

// appendGroup returns the number with further digits, whose value is less than a limb can hold; it reuses the memory of a.
func appendGroup(a []uint32, digits []int, base int) []uint32 {
	scale, carry := uint64(1), uint64(0)
	for _, digit := range digits {
		scale *= uint64(base)
		carry = carry*uint64(base) + uint64(digit)
	}
	for i, limb := range a {
		carry += uint64(limb) * scale
		a[i] = uint32(carry)
		carry >>= limbBits
	}
	if carry != 0 {
		a = append(a, uint32(carry))
	}
	return a
}
