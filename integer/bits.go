package integer

import (
	"brindlewood/api"
	"brindlewood/natural"
)

// Shift returns an integer times 2^n, rounded down.
func Shift(a api.Int, n int) (api.Int, api.Fault) {
	if fault := check(a); fault.Code != api.OK {
		return api.Int{}, fault
	}
	if a.Neg && n < 0 {
		return shiftBelow(a, n), api.Fault{}
	}
	shifted, fault := natural.Shift(a.Limbs, n)
	if fault.Code != api.OK {
		return api.Int{}, fault
	}
	return limited(a.Neg, shifted)
}

// And returns the bits that both integers have.
func And(a, b api.Int) (api.Int, api.Fault) {
	return combine(a, b, func(x, y uint32) uint32 { return x & y })
}

// Or returns the bits that one of two integers has.
func Or(a, b api.Int) (api.Int, api.Fault) {
	return combine(a, b, func(x, y uint32) uint32 { return x | y })
}

// Xor returns the bits that exactly one of two integers has.
func Xor(a, b api.Int) (api.Int, api.Fault) {
	return combine(a, b, func(x, y uint32) uint32 { return x ^ y })
}

// Not returns the bits that an integer does not have: -a - 1.
func Not(a api.Int) (api.Int, api.Fault) {
	if fault := check(a); fault.Code != api.OK {
		return api.Int{}, fault
	}
	return sum(api.Int{Neg: !a.Neg, Limbs: a.Limbs}, api.Int{Neg: true, Limbs: one()})
}

// shiftBelow shifts a negative integer to the right.
func shiftBelow(a api.Int, n int) api.Int {
	// Rounding -a down is rounding a up, which is 1 more than (a-1) / 2^-n rounded down.
	less, _ := natural.Sub(a.Limbs, one())
	shifted, _ := natural.Shift(less, n)
	limbs, _ := natural.Add(shifted, one())
	return signed(true, limbs)
}

// combine returns the integer whose bits follow from those of two integers, limb by limb.
func combine(a, b api.Int, limb func(x, y uint32) uint32) (api.Int, api.Fault) {
	if fault := check(a, b); fault.Code != api.OK {
		return api.Int{}, fault
	}
	count := max(len(a.Limbs), len(b.Limbs))
	x, y := complement(a, count), complement(b, count)
	result := make([]uint32, count)
	beyond := limb(signLimb(a), signLimb(b))
	for i := range result {
		// Here the bits of a negative result are inverted, which makes them those of its absolute value - 1.
		result[i] = limb(x[i], y[i]) ^ beyond
	}
	result = trim(result)
	if beyond != 0 {
		result, _ = natural.Add(result, one())
	}
	return limited(beyond != 0, result)
}

// complement returns the lowest limbs of the two's complement of an integer, which has no more limbs; all beyond them are its signLimb.
func complement(a api.Int, count int) []uint32 {
	result := make([]uint32, count)
	if !a.Neg {
		copy(result, a.Limbs)
		return result
	}
	less, _ := natural.Sub(a.Limbs, one())
	copy(result, less)
	for i := range result {
		result[i] = ^result[i]
	}
	return result
}

// signLimb returns a limb of the infinitely many beyond those of an integer, in its two's complement.
func signLimb(a api.Int) uint32 {
	if a.Neg {
		return 1<<limbBits - 1
	}
	return 0
}

// trim returns a list of limbs without its leading zeros, in the same memory.
func trim(limbs []uint32) []uint32 {
	for len(limbs) > 0 && limbs[len(limbs)-1] == 0 {
		limbs = limbs[:len(limbs)-1]
	}
	return limbs
}
