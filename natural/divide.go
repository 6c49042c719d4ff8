package natural

import (
	"brindlewood/api"
	"math/bits"
	"slices"
)

// DivMod returns the quotient, rounded down, and the rest of two numbers.
func DivMod(a, b []uint32) ([]uint32, []uint32, api.Fault) {
	if fault := checkBoth(a, b); fault.Code != api.OK {
		return nil, nil, fault
	}
	if len(b) == 0 {
		return nil, nil, api.Fault{Code: api.ErrZero, Index: -2}
	}
	quotient, rest := divide(a, b)
	return quotient, rest, api.Fault{}
}

// Gcd returns the greatest common divisor of two numbers.
func Gcd(a, b []uint32) ([]uint32, api.Fault) {
	if fault := checkBoth(a, b); fault.Code != api.OK {
		return nil, fault
	}
	x, y := slices.Clone(a), slices.Clone(b)
	for len(y) > 0 {
		_, rest := divide(x, y)
		x, y = y, rest
	}
	return x, api.Fault{}
}

// divide returns the quotient, rounded down, and the rest of a and b, where b is not 0.
func divide(a, b []uint32) ([]uint32, []uint32) {
	if compare(a, b) < 0 {
		return nil, slices.Clone(a)
	}
	if len(b) == 1 {
		quotient := slices.Clone(a)
		rest := divideBySmall(quotient, b[0])
		return trim(quotient), trim([]uint32{rest})
	}
	return divideLong(a, b)
}

// divideBySmall replaces a by the quotient of a and b, with as many limbs, and returns the rest.
func divideBySmall(a []uint32, b uint32) uint32 {
	var rest uint32
	for i := len(a) - 1; i >= 0; i-- {
		a[i], rest = bits.Div32(rest, a[i], b)
	}
	return rest
}

// divideLong divides a by b, which has at least two limbs and not more than a (Knuth's algorithm D).
func divideLong(a, b []uint32) ([]uint32, []uint32) {
	n := len(b)
	// With the highest bit of the divisor set, a limb of the quotient that is guessed from the first limbs is at most 1 too large.
	shift := bits.LeadingZeros32(b[n-1])
	divisor := shiftLeft(b, shift)[:n]
	rest := shiftLeft(a, shift)
	quotient := make([]uint32, len(a)-n+1)
	for i := len(a) - n; i >= 0; i-- {
		part := rest[i : i+n+1]
		guess := guessLimb(part, divisor)
		if subtractMultiple(part, divisor, guess) {
			guess--
			addBack(part, divisor)
		}
		quotient[i] = guess
	}
	return trim(quotient), trim(shiftRight(rest, shift))
}

// guessLimb returns the quotient of part, which has one limb more than divisor, and divisor, or 1 more.
func guessLimb(part, divisor []uint32) uint32 {
	n := len(divisor)
	first, second := uint64(divisor[n-1]), uint64(divisor[n-2])
	high := uint64(part[n])<<limbBits | uint64(part[n-1])
	guess, rest := high/first, high%first
	for guess > maxLimb || guess*second > rest<<limbBits|uint64(part[n-2]) {
		guess--
		rest += first
		if rest > maxLimb {
			break
		}
	}
	return uint32(guess)
}

// subtractMultiple subtracts factor * divisor from part, which has one limb more, and reports whether the result would be negative; then 2^32 to the power of the number of limbs has been added.
func subtractMultiple(part, divisor []uint32, factor uint32) bool {
	var carry uint64
	var borrow uint32
	for i, limb := range divisor {
		carry += uint64(limb) * uint64(factor)
		part[i], borrow = bits.Sub32(part[i], uint32(carry), borrow)
		carry >>= limbBits
	}
	last := len(divisor)
	part[last], borrow = bits.Sub32(part[last], uint32(carry), borrow)
	return borrow != 0
}

// addBack adds divisor to part, which has one limb more, and drops what is carried beyond it.
func addBack(part, divisor []uint32) {
	var carry uint32
	for i, limb := range divisor {
		part[i], carry = bits.Add32(part[i], limb, carry)
	}
	part[len(divisor)] += carry
}
