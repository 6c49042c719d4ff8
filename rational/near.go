package rational

import (
	"brindlewood/api"
	"brindlewood/integer"
	"brindlewood/natural"
	"slices"
)

// Floor returns the greatest integer that is not greater, and what is left.
func Floor(x api.Ratio) (api.Int, api.Ratio, api.Fault) {
	if fault := check(x); fault.Code != api.OK {
		return api.Int{}, api.Ratio{}, fault
	}
	whole, rest, _ := integer.DivMod(x.Num, x.Den)
	// A common divisor of the rest and the denominator would be one of the numerator too.
	return whole, api.Ratio{Num: rest, Den: signed(false, slices.Clone(x.Den.Limbs))}, api.Fault{}
}

// Round returns the nearest integer, of two the even one.
func Round(x api.Ratio) (api.Int, api.Fault) {
	whole, left, fault := Floor(x)
	if fault.Code != api.OK {
		return api.Int{}, fault
	}
	twice, _ := natural.Shift(left.Num.Limbs, 1)
	order, _ := natural.Cmp(twice, left.Den.Limbs)
	if order > 0 || order == 0 && isOdd(whole) {
		// With something left the denominator is at least 2, so whole has room for 1 more.
		whole, _ = integer.Add(whole, integer.Of(1))
	}
	return whole, api.Fault{}
}

// Terms returns the terms of the continued fraction.
func Terms(x api.Ratio) ([]api.Int, api.Fault) {
	if fault := check(x); fault.Code != api.OK {
		return nil, fault
	}
	var terms []api.Int
	expand(x, func(term api.Int) bool {
		terms = append(terms, term)
		return len(terms) <= api.MaxTerms
	})
	if len(terms) > api.MaxTerms {
		return nil, api.Fault{Code: api.ErrTooMany, Index: -1}
	}
	return terms, api.Fault{}
}

// Nearest returns the nearest ratio whose denominator is not greater than most.
func Nearest(x api.Ratio, most api.Int) (api.Ratio, api.Fault) {
	if fault := check(x); fault.Code != api.OK {
		return api.Ratio{}, fault
	}
	if !integer.Valid(most) {
		return api.Ratio{}, api.Fault{Code: api.ErrForm, Index: -2}
	}
	if most.Neg || isZero(most) {
		return api.Ratio{}, api.Fault{Code: api.ErrRange, Index: -2}
	}
	before, last := convergents(x, most)
	room := sum(most, opposite(before.Den))
	times, _, _ := natural.DivMod(room.Limbs, last.Den.Limbs)
	// Unless last is x, which nothing is closer to, no ratio between last and other has a denominator of at most most, and x is between them.
	other := further(before, last, signed(false, times))
	if closer(other, last, x) {
		return other, api.Fault{}
	}
	// At equal distances last counts: its denominator is less, or both are 1 and last is the Floor of x.
	return last, api.Fault{}
}

// expand calls use with one term of the continued fraction of x after another, until it returns false.
func expand(x api.Ratio, use func(term api.Int) bool) {
	num, den := x.Num, x.Den
	for !isZero(den) {
		term, rest, _ := integer.DivMod(num, den)
		if !use(term) {
			return
		}
		num, den = den, rest
	}
}

// convergents returns the last two convergents of x with denominators of at most most; 1/0 counts as the one before the first.
func convergents(x api.Ratio, most api.Int) (api.Ratio, api.Ratio) {
	before, last := api.Ratio{Den: integer.Of(1)}, api.Ratio{Num: integer.Of(1)}
	expand(x, func(term api.Int) bool {
		next := further(before, last, term)
		if order, _ := natural.Cmp(next.Den.Limbs, most.Limbs); order > 0 {
			return false
		}
		before, last = last, next
		return true
	})
	return before, last
}

// further returns the ratio with the numerator and the denominator of before, each with those of last added so many times.
func further(before, last api.Ratio, times api.Int) api.Ratio {
	return api.Ratio{
		Num: sum(before.Num, product(times, last.Num)),
		Den: sum(before.Den, product(times, last.Den)),
	}
}

// closer reports whether a is closer to x than b is.
func closer(a, b, x api.Ratio) bool {
	first, second := product(gap(a, x), b.Den), product(gap(b, x), a.Den)
	order, _ := natural.Cmp(first.Limbs, second.Limbs)
	return order < 0
}

// isOdd reports whether an integer is odd.
func isOdd(a api.Int) bool {
	return !isZero(a) && a.Limbs[0]%2 == 1
}
