package literal

import (
	"strings"
	"unicode/utf8"

	"brindlewood/api"
	"brindlewood/integer"
)

// isFormed reports whether the fields of a constant have values that its kind permits.
func isFormed(v api.Value) bool {
	isNumber := v.Kind == api.KindInt || v.Kind == api.KindRatio
	isString := v.Kind == api.KindText || v.Kind == api.KindBytes
	return isNatural(v.Num, isNumber) && isNatural(v.Den, v.Kind == api.KindRatio) &&
		(v.Ref == 0 || v.Ref == 1 && v.Kind == api.KindBool) &&
		(v.Text == "" || isString) && (v.Kind != api.KindText || utf8.ValidString(v.Text))
}

// isNatural reports whether an integer is valid and not negative, and 0 if it is not used.
func isNatural(a api.Int, used bool) bool {
	return integer.Valid(a) && !a.Neg && (used || isZero(a))
}

// literalOf returns the literal of a constant whose fields have permitted values.
func literalOf(v api.Value) (string, api.Fault) {
	switch v.Kind {
	case api.KindNil:
		return "nil", api.Fault{}
	case api.KindBool:
		if v.Ref == 1 {
			return "true", api.Fault{}
		}
		return "false", api.Fault{}
	case api.KindInt:
		digits, _ := integer.Text(v.Num, 10)
		return limited(digits)
	case api.KindRatio:
		return fraction(v.Num, v.Den)
	case api.KindText:
		return textLiteral(v.Text), api.Fault{}
	}
	return bytesLiteral(v.Text), api.Fault{}
}

// limited returns a numeral, unless it is too long.
func limited(numeral string) (string, api.Fault) {
	if len(numeral) > api.MaxNumeral {
		return "", failure(api.ErrTooLong)
	}
	return numeral, api.Fault{}
}

// fraction returns the literal of a ratio.
func fraction(num, den api.Int) (string, api.Fault) {
	places, code := placesOf(num, den)
	if code != api.OK {
		return "", failure(code)
	}
	if places > api.MaxNumeral {
		return "", failure(api.ErrTooLong)
	}
	scale, _, _ := integer.DivMod(powerOfTen(places), den)
	scaled, fault := integer.Mul(num, scale)
	if fault.Code != api.OK {
		// A number of more than MaxLimbs limbs has more than MaxNumeral digits.
		return "", failure(api.ErrTooLong)
	}
	digits, _ := integer.Text(scaled, 10)
	digits = strings.Repeat("0", max(0, places+1-len(digits))) + digits
	point := len(digits) - places
	return limited(digits[:point] + "." + digits[point:])
}

// placesOf returns how many digits behind the full stop a ratio needs, or an error.
func placesOf(num, den api.Int) (int, int) {
	if isZero(den) {
		return 0, api.ErrInexact
	}
	rest := den
	// without takes a prime factor out of the rest, and returns how often it was in there.
	without := func(prime int) int {
		for count := 0; ; count++ {
			quotient, divides := divide(rest, prime)
			if !divides {
				return count
			}
			rest = quotient
		}
	}
	twos, fives := without(2), without(5)
	if !isOne(rest) {
		return 0, api.ErrInexact
	}
	_, even := divide(num, 2)
	_, byFive := divide(num, 5)
	if isOne(den) || twos > 0 && even || fives > 0 && byFive {
		return 0, api.ErrForm
	}
	return max(twos, fives), api.OK
}

// divide returns the quotient of an integer and a prime, rounded down, and whether the prime divides it.
func divide(a api.Int, prime int) (api.Int, bool) {
	quotient, rest, _ := integer.DivMod(a, integer.Of(prime))
	return quotient, isZero(rest)
}

// textLiteral returns the literal of a text.
func textLiteral(text string) string {
	literal := []byte(`"`)
	for _, char := range text {
		literal = append(literal, escape(char, '"')...)
	}
	return string(append(literal, '"'))
}

// bytesLiteral returns the literal of a byte string.
func bytesLiteral(text string) string {
	literal := []byte(`b"`)
	for _, char := range []byte(text) {
		if char < 127 {
			literal = append(literal, escape(rune(char), '"')...)
		} else {
			literal = append(literal, byNumber(rune(char))...)
		}
	}
	return string(append(literal, '"'))
}
