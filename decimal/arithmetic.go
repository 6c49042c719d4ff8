package decimal

import (
	"brindlewood/api"
	"brindlewood/natural"
)

// Add returns the sum of two decimals.
func Add(a, b api.Decimal, c api.Context) (api.Decimal, int, api.Fault) {
	if fault := check(c, a, b); fault.Code != api.OK {
		return api.Decimal{}, 0, fault
	}
	return success(sum(a, b, c))
}

// Sub returns the difference of two decimals.
func Sub(a, b api.Decimal, c api.Context) (api.Decimal, int, api.Fault) {
	if fault := check(c, a, b); fault.Code != api.OK {
		return api.Decimal{}, 0, fault
	}
	return success(sum(a, opposite(b), c))
}

// Mul returns the product of two decimals.
func Mul(a, b api.Decimal, c api.Context) (api.Decimal, int, api.Fault) {
	if fault := check(c, a, b); fault.Code != api.OK {
		return api.Decimal{}, 0, fault
	}
	result, signals := product(a, b)
	if signals != 0 {
		return success(result, signals)
	}
	return success(round(result, c))
}

// Fma returns a * b + d, rounded once.
func Fma(a, b, d api.Decimal, c api.Context) (api.Decimal, int, api.Fault) {
	if fault := check(c, a, b, d); fault.Code != api.OK {
		return api.Decimal{}, 0, fault
	}
	first, signals := product(a, b)
	if signals != 0 {
		return success(first, signals)
	}
	return success(sum(first, d, c))
}

// Div returns the quotient of two decimals.
func Div(a, b api.Decimal, c api.Context) (api.Decimal, int, api.Fault) {
	if fault := check(c, a, b); fault.Code != api.OK {
		return api.Decimal{}, 0, fault
	}
	return success(quotient(a, b, c))
}

// Rem returns what is left when the second decimal is taken from the first one as often as possible, toward zero.
func Rem(a, b api.Decimal, c api.Context) (api.Decimal, int, api.Fault) {
	if fault := check(c, a, b); fault.Code != api.OK {
		return api.Decimal{}, 0, fault
	}
	switch {
	case anyOf(api.DecNone, a, b):
		return none(), 0, api.Fault{}
	case a.Kind == api.DecInfinite || isZero(b):
		return success(invalid())
	case b.Kind == api.DecInfinite:
		return success(round(a, c))
	}
	first, second, exp := aligned(a, b)
	_, rest, _ := natural.DivMod(first, second)
	return success(round(finite(a.Neg, rest, exp), c))
}

// opposite returns a decimal with the other sign, in the same memory.
func opposite(x api.Decimal) api.Decimal {
	x.Neg = !x.Neg
	return x
}

// aligned returns the coefficients of two finite decimals for the smaller one of their exponents, and this exponent.
func aligned(a, b api.Decimal) ([]uint32, []uint32, int) {
	exp := min(a.Exp, b.Exp)
	return scaled(a.Coef.Limbs, a.Exp-exp), scaled(b.Coef.Limbs, b.Exp-exp), exp
}

// exactSum returns the exact sum of two finite decimals, which may be longer than a valid one; the context says what the sign of 0 is.
func exactSum(a, b api.Decimal, c api.Context) api.Decimal {
	first, second, exp := aligned(a, b)
	if a.Neg == b.Neg {
		coef, _ := natural.Add(first, second)
		return finite(a.Neg, coef, exp)
	}
	switch compare(first, second) {
	case -1:
		coef, _ := natural.Sub(second, first)
		return finite(b.Neg, coef, exp)
	case 1:
		coef, _ := natural.Sub(first, second)
		return finite(a.Neg, coef, exp)
	}
	return finite(c.Rounding == api.RoundFloor, nil, exp)
}

// sum returns the sum of two decimals, the first of which may be a product.
func sum(a, b api.Decimal, c api.Context) (api.Decimal, int) {
	switch {
	case anyOf(api.DecNone, a, b):
		return none(), 0
	case a.Kind == api.DecInfinite && b.Kind == api.DecInfinite && a.Neg != b.Neg:
		return invalid()
	case a.Kind == api.DecInfinite:
		return infinite(a.Neg), 0
	case b.Kind == api.DecInfinite:
		return infinite(b.Neg), 0
	}
	return round(exactSum(a, b, c), c)
}

// product returns the exact product of two decimals, whose coefficient and exponent may be larger than those of a valid one, and SignalInvalid if it has no meaning.
func product(a, b api.Decimal) (api.Decimal, int) {
	neg := a.Neg != b.Neg
	switch {
	case anyOf(api.DecNone, a, b):
		return none(), 0
	case !anyOf(api.DecInfinite, a, b):
		return finite(neg, times(a.Coef.Limbs, b.Coef.Limbs), a.Exp+b.Exp), 0
	case isZero(a) || isZero(b):
		return invalid()
	}
	return infinite(neg), 0
}

// quotient returns the quotient of two decimals.
func quotient(a, b api.Decimal, c api.Context) (api.Decimal, int) {
	neg := a.Neg != b.Neg
	switch {
	case anyOf(api.DecNone, a, b):
		return none(), 0
	case isZero(a) && isZero(b) || a.Kind == api.DecInfinite && b.Kind == api.DecInfinite:
		return invalid()
	case a.Kind == api.DecInfinite:
		return infinite(neg), 0
	case b.Kind == api.DecInfinite:
		return finite(neg, nil, tiny(c)), 0
	case isZero(b):
		return infinite(neg), api.SignalZero
	}
	exp := a.Exp - b.Exp
	return fit(exact{neg: neg, num: a.Coef.Limbs, den: b.Coef.Limbs, exp: exp, ideal: exp}, c)
}
