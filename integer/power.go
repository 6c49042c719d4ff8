package integer

import (
	"brindlewood/api"
	"brindlewood/natural"
)

// Pow returns a power.
func Pow(a api.Int, n int) (api.Int, api.Fault) {
	if fault := check(a); fault.Code != api.OK {
		return api.Int{}, fault
	}
	if n < 0 || n > api.MaxExponent {
		return api.Int{}, api.Fault{Code: api.ErrRange, Index: -2}
	}
	large := false
	limbs := power(a.Limbs, Of(n).Limbs, one(), func(x, y []uint32) []uint32 {
		// No later factor makes the absolute value smaller, so the first excess decides; 0 spares the rest of the work.
		product, _ := natural.Mul(x, y)
		if len(product) > api.MaxLimbs {
			large = true
			return nil
		}
		return product
	})
	if large {
		return api.Int{}, tooLarge()
	}
	return signed(a.Neg && n%2 == 1, limbs), api.Fault{}
}

// PowMod returns the rest of a power.
func PowMod(a, n, m api.Int) (api.Int, api.Fault) {
	if fault := check(a, n, m); fault.Code != api.OK {
		return api.Int{}, fault
	}
	if n.Neg {
		return api.Int{}, api.Fault{Code: api.ErrRange, Index: -2}
	}
	if m.Neg {
		return api.Int{}, api.Fault{Code: api.ErrRange, Index: -3}
	}
	if len(m.Limbs) == 0 {
		return api.Int{}, api.Fault{Code: api.ErrZero, Index: -3}
	}
	_, base, _ := DivMod(a, m)
	_, start, _ := natural.DivMod(one(), m.Limbs)
	limbs := power(base.Limbs, n.Limbs, start, func(x, y []uint32) []uint32 {
		product, _ := natural.Mul(x, y)
		_, rest, _ := natural.DivMod(product, m.Limbs)
		return rest
	})
	return signed(false, limbs), api.Fault{}
}

// power returns base to the power of exponent, where start is the power with the exponent 0, and times multiplies.
func power(base, exponent, start []uint32, times func(x, y []uint32) []uint32) []uint32 {
	result := start
	digits, _ := natural.Bits(exponent)
	for i := digits - 1; i >= 0; i-- {
		result = times(result, result)
		if exponent[i/limbBits]>>(i%limbBits)&1 == 1 {
			result = times(result, base)
		}
	}
	return result
}
