package decimal

import (
	"brindlewood/api"
	"brindlewood/natural"
)

// Sqrt returns the square root of a decimal.
func Sqrt(a api.Decimal, c api.Context) (api.Decimal, int, api.Fault) {
	if fault := check(c, a); fault.Code != api.OK {
		return api.Decimal{}, 0, fault
	}
	switch {
	case a.Kind == api.DecNone:
		return none(), 0, api.Fault{}
	case a.Neg && !isZero(a):
		return success(invalid())
	case a.Kind == api.DecInfinite:
		return infinite(false), 0, api.Fault{}
	}
	return success(fit(root(a, c.Precision), c))
}

// Round rounds a decimal.
func Round(a api.Decimal, c api.Context) (api.Decimal, int, api.Fault) {
	if fault := check(c, a); fault.Code != api.OK {
		return api.Decimal{}, 0, fault
	}
	return success(round(a, c))
}

// Reduce rounds a decimal and takes zeros from the end of its coefficient.
func Reduce(a api.Decimal, c api.Context) (api.Decimal, int, api.Fault) {
	if fault := check(c, a); fault.Code != api.OK {
		return api.Decimal{}, 0, fault
	}
	result, signals := round(a, c)
	switch {
	case isZero(result):
		result.Exp = 0
	case result.Kind == api.DecFinite:
		result.Coef.Limbs, result.Exp = withoutZeros(result.Coef.Limbs, result.Exp, api.MaxPower)
	}
	return result, signals, api.Fault{}
}

// Quantize returns a decimal with a given exponent.
func Quantize(a api.Decimal, exp int, c api.Context) (api.Decimal, int, api.Fault) {
	if fault := check(c, a); fault.Code != api.OK {
		return api.Decimal{}, 0, fault
	}
	switch {
	case a.Kind == api.DecNone:
		return none(), 0, api.Fault{}
	case a.Kind == api.DecInfinite || exp < tiny(c) || exp > c.Max:
		return success(invalid())
	}
	coef, changed := rounded(exactly(a), exp, c.Rounding)
	result := finite(a.Neg, coef, exp)
	if compare(coef, tenTo(c.Precision)) >= 0 || reaches(exactly(result), c.Max+1) {
		return success(invalid())
	}
	return result, signalsOf(changed, false), api.Fault{}
}

// round fits a decimal with its exponent as the ideal one; decimals that are not finite remain.
func round(a api.Decimal, c api.Context) (api.Decimal, int) {
	if a.Kind != api.DecFinite {
		return api.Decimal{Kind: a.Kind, Neg: a.Neg}, 0
	}
	return fit(exactly(a), c)
}

// root returns the square root of a finite decimal, or a number that is rounded like it.
func root(a api.Decimal, precision int) exact {
	coef, exp := a.Coef.Limbs, a.Exp
	if exp%2 != 0 {
		coef, exp = scaled(coef, 1), exp-1
	}
	square := scaled(coef, 2*precision)
	whole, _ := natural.Sqrt(square)
	result := exact{neg: a.Neg, num: whole, den: one(), exp: exp/2 - precision, ideal: exp / 2}
	if compare(times(whole, whole), square) != 0 {
		// The root lies between two neighbours with the digits that were computed, which are one more than any result has. All numbers between these two are rounded alike.
		result.num, _ = natural.Add(scaled(whole, 1), one())
		result.exp--
	}
	return result
}
