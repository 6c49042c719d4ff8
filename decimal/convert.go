package decimal

import (
	"brindlewood/api"
	"brindlewood/integer"
	"brindlewood/rational"
	"cmp"
)

// Of rounds a ratio.
func Of(x api.Ratio, c api.Context) (api.Decimal, int, api.Fault) {
	if fault := check(c); fault.Code != api.OK {
		return api.Decimal{}, 0, fault
	}
	if !rational.Valid(x) {
		return api.Decimal{}, 0, api.Fault{Code: api.ErrForm, Index: -1}
	}
	return success(fit(exact{neg: x.Num.Neg, num: x.Num.Limbs, den: x.Den.Limbs}, c))
}

// Ratio returns the exact value of a decimal.
func Ratio(x api.Decimal) (api.Ratio, api.Fault) {
	if fault := checkForms(x); fault.Code != api.OK {
		return api.Ratio{}, fault
	}
	if x.Kind != api.DecFinite {
		return api.Ratio{}, api.Fault{Code: api.ErrWrongType, Index: -1}
	}
	// The greatest power, 10^api.MaxPower, still is a valid integer.
	num, den := x.Coef, integer.Of(1)
	if x.Exp < 0 {
		den.Limbs = tenTo(-x.Exp)
	} else {
		num.Limbs = scaled(num.Limbs, x.Exp)
	}
	if len(num.Limbs) > api.MaxLimbs {
		return api.Ratio{}, api.Fault{Code: api.ErrTooLarge, Index: -1}
	}
	num.Neg = x.Neg && len(num.Limbs) > 0
	return rational.Make(num, den)
}

// Cmp compares the values of two decimals.
func Cmp(a, b api.Decimal) (int, api.Fault) {
	if fault := checkForms(a, b); fault.Code != api.OK {
		return 0, fault
	}
	for i, x := range []api.Decimal{a, b} {
		if x.Kind == api.DecNone {
			return 0, api.Fault{Code: api.ErrWrongType, Index: -1 - i}
		}
	}
	if anyOf(api.DecInfinite, a, b) {
		return cmp.Compare(side(a), side(b)), api.Fault{}
	}
	return sign(exactSum(a, opposite(b), api.Context{})), api.Fault{}
}

// side returns on which side of all finite numbers a number is: -1, 0 if it is one of them, or 1.
func side(x api.Decimal) int {
	switch {
	case x.Kind == api.DecFinite:
		return 0
	case x.Neg:
		return -1
	}
	return 1
}

// sign returns -1, 0 or 1 if a finite number is less than, equal to or greater than 0.
func sign(x api.Decimal) int {
	switch {
	case isZero(x):
		return 0
	case x.Neg:
		return -1
	}
	return 1
}
