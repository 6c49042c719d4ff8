package rational

import (
	"brindlewood/api"
	"brindlewood/natural"
)

// The functions of this file compute with integers that may have more than api.MaxLimbs limbs, as the terms of a result have before they are reduced. No product here or in the other files has more than four valid integers as factors, which makes at most 4 * api.MaxLimbs limbs and one or two more for sums, fewer than api.MaxNatural; so the faults of package natural are dropped.

// signed returns the integer with an absolute value, whose memory it takes over, and a sign, which counts unless it is 0.
func signed(neg bool, limbs []uint32) api.Int {
	return api.Int{Neg: neg && len(limbs) > 0, Limbs: limbs}
}

// isZero reports whether an integer is 0.
func isZero(a api.Int) bool {
	return len(a.Limbs) == 0
}

// isOne reports whether the absolute value of an integer is 1.
func isOne(a api.Int) bool {
	return len(a.Limbs) == 1 && a.Limbs[0] == 1
}

// opposite returns -a, in the same memory.
func opposite(a api.Int) api.Int {
	return signed(!a.Neg, a.Limbs)
}

// product returns a * b.
func product(a, b api.Int) api.Int {
	limbs, _ := natural.Mul(a.Limbs, b.Limbs)
	return signed(a.Neg != b.Neg, limbs)
}

// sum returns a + b.
func sum(a, b api.Int) api.Int {
	if a.Neg == b.Neg {
		limbs, _ := natural.Add(a.Limbs, b.Limbs)
		return signed(a.Neg, limbs)
	}
	if order, _ := natural.Cmp(a.Limbs, b.Limbs); order < 0 {
		a, b = b, a
	}
	limbs, _ := natural.Sub(a.Limbs, b.Limbs)
	return signed(a.Neg, limbs)
}
