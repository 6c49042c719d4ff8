package decimal

import (
	"brindlewood/api"
	"brindlewood/natural"
)

// exact is the number num / den * 10^exp, negated if neg is set, which counts for 0 too, with its ideal exponent.
type exact struct {
	neg      bool
	num, den []uint32
	exp      int
	ideal    int
}

// exactly returns the value of a finite decimal, with its exponent as the ideal one.
func exactly(x api.Decimal) exact {
	return exact{neg: x.Neg, num: x.Coef.Limbs, den: one(), exp: x.Exp, ideal: x.Exp}
}

// tiny returns the least exponent of results.
func tiny(c api.Context) int {
	return c.Min - c.Precision + 1
}

// fit rounds an exact number to what a context permits, and returns the signals of that.
func fit(x exact, c api.Context) (api.Decimal, int) {
	if len(x.num) == 0 {
		return finite(x.neg, nil, min(max(x.ideal, tiny(c)), c.Max)), 0
	}
	first := firstExponent(x)
	exp := max(first-c.Precision+1, tiny(c))
	coef, changed := rounded(x, exp, c.Rounding)
	if changed {
		coef, exp = shorter(coef, exp, c.Precision)
	} else {
		coef, exp = withoutZeros(coef, exp, x.ideal)
	}
	result := finite(x.neg, coef, exp)
	if reaches(exactly(result), c.Max+1) {
		return beyond(x.neg, c), api.SignalInexact | api.SignalOverflow
	}
	return result, signalsOf(changed, first < c.Min)
}

// signalsOf returns the signals of a number that is changed, is subnormal, or both.
func signalsOf(changed, subnormal bool) int {
	switch {
	case changed && subnormal:
		return api.SignalInexact | api.SignalSubnormal | api.SignalUnderflow
	case changed:
		return api.SignalInexact
	case subnormal:
		return api.SignalSubnormal
	}
	return 0
}

// beyond returns what takes the place of a number that is too large for a context.
func beyond(neg bool, c api.Context) api.Decimal {
	// The infinite number counts as the nearest one.
	if away(c.Rounding, neg, 1, false) {
		return infinite(neg)
	}
	nines, _ := natural.Sub(tenTo(c.Precision), one())
	return finite(neg, nines, c.Max-c.Precision+1)
}

// firstExponent returns the first exponent of a number other than 0.
func firstExponent(x exact) int {
	above, _ := natural.Bits(x.num)
	below, _ := natural.Bits(x.den)
	// The logarithm of 2 is about 0.30103; the loops correct what this misses.
	guess := x.exp + (above-below)*30103/100_000
	for reaches(x, guess+1) {
		guess++
	}
	for !reaches(x, guess) {
		guess--
	}
	return guess
}

// reaches reports whether the absolute value of a number is at least 10^n.
func reaches(x exact, n int) bool {
	return compare(over(x, n)) >= 0
}

// over returns the numerator and the denominator of the absolute value of x / 10^n.
func over(x exact, n int) ([]uint32, []uint32) {
	if x.exp >= n {
		return scaled(x.num, x.exp-n), x.den
	}
	return x.num, scaled(x.den, n-x.exp)
}

// rounded returns the absolute value of x / 10^n, rounded to an integer, and whether that has changed it.
func rounded(x exact, n int, rounding int) ([]uint32, bool) {
	num, den := over(x, n)
	whole, rest, _ := natural.DivMod(num, den)
	if len(rest) == 0 {
		return whole, false
	}
	twice, _ := natural.Shift(rest, 1)
	if away(rounding, x.neg, compare(twice, den), isOdd(whole)) {
		whole, _ = natural.Add(whole, one())
	}
	return whole, true
}

// away reports whether a number between two integers is rounded away from 0, where half compares the digits that are cut off with a half, and odd is about the integer toward 0.
func away(rounding int, neg bool, half int, odd bool) bool {
	switch rounding {
	case api.RoundUp:
		return true
	case api.RoundFloor:
		return neg
	case api.RoundCeiling:
		return !neg
	case api.RoundHalfUp:
		return half >= 0
	case api.RoundHalfDown:
		return half > 0
	case api.RoundHalfEven:
		return half > 0 || half == 0 && odd
	}
	return false
}

// isOdd reports whether a number is odd.
func isOdd(a []uint32) bool {
	return len(a) > 0 && a[0]%2 == 1
}

// shorter returns a coefficient and its exponent, rewritten if rounding has led to one digit too many.
func shorter(coef []uint32, exp, precision int) ([]uint32, int) {
	if compare(coef, tenTo(precision)) == 0 {
		return tenTo(precision - 1), exp + 1
	}
	return coef, exp
}

// withoutZeros takes zeros from the end of a coefficient other than 0 as long as the exponent is less than most, and returns both.
func withoutZeros(coef []uint32, exp, most int) ([]uint32, int) {
	for exp < most {
		fewer, digit, _ := natural.DivMod(coef, tenTo(1))
		if len(digit) > 0 {
			break
		}
		coef, exp = fewer, exp+1
	}
	return coef, exp
}
