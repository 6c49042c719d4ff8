package decimal_test

import (
	"math/big"

	"brindlewood/api"
)

// divided is what the absolute value of a number is in units of 10^n: the whole units, and how the rest compares with a half of one: -2 if there is no rest, else -1, 0 or 1.
type divided func(n int) (*big.Int, int)

// ratioIn divides a ratio.
func ratioIn(x *big.Rat) divided {
	return func(n int) (*big.Int, int) {
		scaled := new(big.Rat).Mul(new(big.Rat).Abs(x), power(-n))
		whole, rest := new(big.Int).QuoRem(scaled.Num(), scaled.Denom(), new(big.Int))
		if rest.Sign() == 0 {
			return whole, -2
		}
		return whole, rest.Lsh(rest, 1).Cmp(scaled.Denom())
	}
}

// rootIn divides the square root of a ratio.
func rootIn(x *big.Rat) divided {
	return func(n int) (*big.Int, int) {
		scaled := new(big.Rat).Mul(x, power(-2*n))
		whole := new(big.Int).Quo(scaled.Num(), scaled.Denom())
		whole.Sqrt(whole)
		if scaled.Cmp(square(new(big.Rat).SetInt(whole))) == 0 {
			return whole, -2
		}
		half := new(big.Rat).Add(new(big.Rat).SetInt(whole), big.NewRat(1, 2))
		return whole, scaled.Cmp(square(half))
	}
}

// square returns x * x.
func square(x *big.Rat) *big.Rat { return new(big.Rat).Mul(x, x) }

// first returns the first exponent of a number other than 0, searched from one that is not less on.
func (x divided) first(from int) int {
	for {
		if whole, _ := x(from); whole.Sign() > 0 {
			return from
		}
		from--
	}
}

// goesUp says whether a number with a rest is rounded away from 0.
func goesUp(rounding int, neg bool, half int, odd bool) bool {
	return []bool{false, true, neg, !neg, half >= 0, half > 0, half == 1 || half == 0 && odd}[rounding]
}

// written returns a text that show writes for a finite decimal.
func written(neg bool, coef *big.Int, exp int) string {
	return show(api.Decimal{Neg: neg, Coef: toInt(coef), Exp: exp})
}

// fitted fits a number as the chapter says, where from is not less than its first exponent, unless it is 0.
func fitted(x divided, isZero, neg bool, from, ideal int, c api.Context) (string, int) {
	least := c.Min - c.Precision + 1
	if isZero {
		return written(neg, new(big.Int), max(least, min(ideal, c.Max))), 0
	}
	first := x.first(from)
	exp := max(first-c.Precision+1, least)
	coef, half := x(exp)
	signals := 0
	if first < c.Min {
		signals += api.SignalSubnormal
	}
	if half == -2 {
		for k := min(ideal, first); k > exp; k-- {
			if whole, rest := x(k); rest == -2 {
				coef, exp = whole, k
				break
			}
		}
	} else {
		signals += api.SignalInexact
		if first < c.Min {
			signals += api.SignalUnderflow
		}
		if goesUp(c.Rounding, neg, half, coef.Bit(0) == 1) {
			coef.Add(coef, big.NewInt(1))
		}
		if coef.Cmp(ten(c.Precision)) == 0 {
			coef, exp = ten(c.Precision-1), exp+1
		}
	}
	if coef.Sign() != 0 && exp+len(coef.String())-1 > c.Max {
		return overflowed(neg, c), api.SignalInexact + api.SignalOverflow
	}
	return written(neg, coef, exp), signals
}

// overflowed is what a number beyond Max becomes.
func overflowed(neg bool, c api.Context) string {
	if c.Rounding == api.RoundDown || c.Rounding == api.RoundFloor && !neg || c.Rounding == api.RoundCeiling && neg {
		return written(neg, new(big.Int).Sub(ten(c.Precision), big.NewInt(1)), c.Max-c.Precision+1)
	}
	return show(api.Decimal{Kind: api.DecInfinite, Neg: neg})
}

// fittedRatio fits a ratio, with a sign that counts only for 0.
func fittedRatio(x *big.Rat, zeroNeg bool, ideal int, c api.Context) (string, int) {
	from := len(x.Num().String()) - len(x.Denom().String()) + 1
	neg := x.Sign() < 0 || x.Sign() == 0 && zeroNeg
	return fitted(ratioIn(x), x.Sign() == 0, neg, from, ideal, c)
}
