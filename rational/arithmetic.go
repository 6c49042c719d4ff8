package rational

import (
	"brindlewood/api"
	"brindlewood/integer"
)

// Add returns the sum of two ratios.
func Add(a, b api.Ratio) (api.Ratio, api.Fault) {
	if fault := check(a, b); fault.Code != api.OK {
		return api.Ratio{}, fault
	}
	negated := api.Ratio{Num: opposite(b.Num), Den: b.Den}
	return quotient(gap(a, negated), product(a.Den, b.Den))
}

// Sub returns the difference of two ratios.
func Sub(a, b api.Ratio) (api.Ratio, api.Fault) {
	if fault := check(a, b); fault.Code != api.OK {
		return api.Ratio{}, fault
	}
	return quotient(gap(a, b), product(a.Den, b.Den))
}

// Mul returns the product of two ratios.
func Mul(a, b api.Ratio) (api.Ratio, api.Fault) {
	if fault := check(a, b); fault.Code != api.OK {
		return api.Ratio{}, fault
	}
	return quotient(product(a.Num, b.Num), product(a.Den, b.Den))
}

// Div returns the quotient of two ratios.
func Div(a, b api.Ratio) (api.Ratio, api.Fault) {
	if fault := check(a, b); fault.Code != api.OK {
		return api.Ratio{}, fault
	}
	if isZero(b.Num) {
		return api.Ratio{}, api.Fault{Code: api.ErrZero, Index: -2}
	}
	return quotient(product(a.Num, b.Den), product(a.Den, b.Num))
}

// Pow returns a power with an integer exponent.
func Pow(x api.Ratio, n int) (api.Ratio, api.Fault) {
	if fault := check(x); fault.Code != api.OK {
		return api.Ratio{}, fault
	}
	if n < -api.MaxExponent || n > api.MaxExponent {
		return api.Ratio{}, api.Fault{Code: api.ErrRange, Index: -2}
	}
	if n < 0 {
		if isZero(x.Num) {
			return api.Ratio{}, api.Fault{Code: api.ErrZero, Index: -1}
		}
		x, n = inverse(x), -n
	}
	// Powers of integers without a common divisor have none either, so their only fault is that of the result.
	num, fault := integer.Pow(x.Num, n)
	if fault.Code != api.OK {
		return api.Ratio{}, fault
	}
	den, fault := integer.Pow(x.Den, n)
	if fault.Code != api.OK {
		return api.Ratio{}, fault
	}
	return api.Ratio{Num: num, Den: den}, api.Fault{}
}

// Cmp compares two ratios.
func Cmp(a, b api.Ratio) (int, api.Fault) {
	if fault := check(a, b); fault.Code != api.OK {
		return 0, fault
	}
	between := gap(a, b)
	switch {
	case isZero(between):
		return 0, api.Fault{}
	case between.Neg:
		return -1, api.Fault{}
	}
	return 1, api.Fault{}
}

// gap returns (a - b) times both denominators, which has the sign of a - b.
func gap(a, b api.Ratio) api.Int {
	return sum(product(a.Num, b.Den), opposite(product(b.Num, a.Den)))
}

// inverse returns 1 / x, in the same memory, where x is not 0.
func inverse(x api.Ratio) api.Ratio {
	return api.Ratio{Num: signed(x.Num.Neg, x.Den.Limbs), Den: signed(false, x.Num.Limbs)}
}
