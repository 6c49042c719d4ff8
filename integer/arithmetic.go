package integer

import (
	"brindlewood/api"
	"brindlewood/natural"
	"slices"
)

// The functions of this file, power.go and bits.go drop the faults of package natural where none can occur: valid integers, their sums and their products are far from api.MaxNatural limbs.

// Neg returns an integer with the other sign.
func Neg(a api.Int) (api.Int, api.Fault) {
	if fault := check(a); fault.Code != api.OK {
		return api.Int{}, fault
	}
	return signed(!a.Neg, slices.Clone(a.Limbs)), api.Fault{}
}

// Abs returns the absolute value.
func Abs(a api.Int) (api.Int, api.Fault) {
	if fault := check(a); fault.Code != api.OK {
		return api.Int{}, fault
	}
	return signed(false, slices.Clone(a.Limbs)), api.Fault{}
}

// Add returns the sum of two integers.
func Add(a, b api.Int) (api.Int, api.Fault) {
	if fault := check(a, b); fault.Code != api.OK {
		return api.Int{}, fault
	}
	return sum(a, b)
}

// Sub returns the difference of two integers.
func Sub(a, b api.Int) (api.Int, api.Fault) {
	if fault := check(a, b); fault.Code != api.OK {
		return api.Int{}, fault
	}
	return sum(a, api.Int{Neg: !b.Neg, Limbs: b.Limbs})
}

// Mul returns the product of two integers.
func Mul(a, b api.Int) (api.Int, api.Fault) {
	if fault := check(a, b); fault.Code != api.OK {
		return api.Int{}, fault
	}
	product, _ := natural.Mul(a.Limbs, b.Limbs)
	return limited(a.Neg != b.Neg, product)
}

// DivMod returns the quotient of two integers, rounded down, and the rest, which has the sign of the divisor.
func DivMod(a, b api.Int) (api.Int, api.Int, api.Fault) {
	if fault := check(a, b); fault.Code != api.OK {
		return api.Int{}, api.Int{}, fault
	}
	if len(b.Limbs) == 0 {
		return api.Int{}, api.Int{}, api.Fault{Code: api.ErrZero, Index: -2}
	}
	quotient, rest, _ := natural.DivMod(a.Limbs, b.Limbs)
	below := a.Neg != b.Neg
	if below && len(rest) > 0 {
		quotient, _ = natural.Add(quotient, one())
		rest, _ = natural.Sub(b.Limbs, rest)
	}
	return signed(below, quotient), signed(b.Neg, rest), api.Fault{}
}

// Gcd returns the greatest common divisor, which is not negative.
func Gcd(a, b api.Int) (api.Int, api.Fault) {
	if fault := check(a, b); fault.Code != api.OK {
		return api.Int{}, fault
	}
	divisor, _ := natural.Gcd(a.Limbs, b.Limbs)
	return signed(false, divisor), api.Fault{}
}

// Sqrt returns the square root, rounded down.
func Sqrt(a api.Int) (api.Int, api.Fault) {
	if fault := check(a); fault.Code != api.OK {
		return api.Int{}, fault
	}
	if a.Neg {
		return api.Int{}, api.Fault{Code: api.ErrRange, Index: -1}
	}
	root, _ := natural.Sqrt(a.Limbs)
	return signed(false, root), api.Fault{}
}

// sum returns a + b; here a 0 may be negative.
func sum(a, b api.Int) (api.Int, api.Fault) {
	if a.Neg == b.Neg {
		total, _ := natural.Add(a.Limbs, b.Limbs)
		return limited(a.Neg, total)
	}
	if order, _ := natural.Cmp(a.Limbs, b.Limbs); order < 0 {
		a, b = b, a
	}
	difference, _ := natural.Sub(a.Limbs, b.Limbs)
	return signed(a.Neg, difference), api.Fault{}
}
