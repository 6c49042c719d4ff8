package literal

import (
	"strings"

	"brindlewood/api"
	"brindlewood/integer"
	"brindlewood/rational"
)

// numberOf returns the number of a numeral, which is short enough for every number on the way to fit.
func numberOf(s string) api.Value {
	digits, base := s, 10
	switch {
	case strings.HasPrefix(s, "0x"):
		digits, base = s[2:], 16
	case strings.HasPrefix(s, "0b"):
		digits, base = s[2:], 2
	}
	whole, fraction, _ := strings.Cut(digits, ".")
	x, _ := rational.Make(integerOf(whole+fraction, base), powerOfTen(len(fraction)))
	if isOne(x.Den) {
		return api.Value{Kind: api.KindInt, Num: x.Num}
	}
	return api.Value{Kind: api.KindRatio, Num: x.Num, Den: x.Den}
}

// integerOf returns the integer with some digits, ahead of which there may be zeros.
func integerOf(digits string, base int) api.Int {
	digits = strings.TrimLeft(digits, "0")
	if digits == "" {
		return api.Int{}
	}
	a, _ := integer.Parse(digits, base)
	return a
}

func powerOfTen(exponent int) api.Int {
	power, _ := integer.Pow(integer.Of(10), exponent)
	return power
}

func isZero(a api.Int) bool { return len(a.Limbs) == 0 }

func isOne(a api.Int) bool { return len(a.Limbs) == 1 && a.Limbs[0] == 1 }
