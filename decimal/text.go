package decimal

import (
	"brindlewood/api"
	"brindlewood/integer"
	"strconv"
	"strings"
)

// What the texts of decimals consist of, beside digits.
const (
	base         = 10
	minus        = "-"
	plus         = "+"
	point        = "."
	mark         = "E"
	zero         = "0"
	infiniteName = "infinite"
	noneName     = "none"
)

// The least first exponent of a number that is written without its exponent, and the most digits of an exponent that is read.
const (
	leastPlain     = -6
	exponentDigits = 4
)

// Text returns the text of a decimal.
func Text(x api.Decimal) (string, api.Fault) {
	if fault := checkForms(x); fault.Code != api.OK {
		return "", fault
	}
	text := absoluteText(x)
	if x.Neg {
		text = minus + text
	}
	return text, api.Fault{}
}

// absoluteText returns the text of a decimal without its sign.
func absoluteText(x api.Decimal) string {
	switch x.Kind {
	case api.DecInfinite:
		return infiniteName
	case api.DecNone:
		return noneName
	}
	digits, _ := integer.Text(x.Coef, base)
	first := x.Exp + len(digits) - 1
	switch {
	case x.Exp == 0:
		return digits
	case x.Exp < 0 && first >= leastPlain:
		return plainText(digits, -x.Exp)
	}
	return scientificText(digits, first)
}

// plainText returns digits with a point ahead of the last ones.
func plainText(digits string, behind int) string {
	if missing := behind + 1 - len(digits); missing > 0 {
		digits = strings.Repeat(zero, missing) + digits
	}
	ahead := len(digits) - behind
	return digits[:ahead] + point + digits[ahead:]
}

// scientificText returns digits with a point behind the first one and its exponent.
func scientificText(digits string, first int) string {
	text := digits[:1]
	if len(digits) > 1 {
		text += point + digits[1:]
	}
	text += mark
	if first >= 0 {
		text += plus
	}
	return text + strconv.Itoa(first)
}

// Parse returns the decimal with a text.
func Parse(text string) (api.Decimal, api.Fault) {
	if len(text) > api.MaxWidth {
		return api.Decimal{}, api.Fault{Code: api.ErrTooLong, Index: -1}
	}
	if text == noneName {
		return none(), api.Fault{}
	}
	absolute, neg := strings.CutPrefix(text, minus)
	if absolute == infiniteName {
		return infinite(neg), api.Fault{}
	}
	x, code := parseNumber(absolute)
	if code != api.OK {
		return api.Decimal{}, api.Fault{Code: code, Index: -1}
	}
	x.Neg = neg
	return x, api.Fault{}
}

// parseNumber returns the finite decimal with a text that has no sign, or the code of what is wrong with it.
func parseNumber(text string) (api.Decimal, int) {
	digits, power, hasPower := strings.Cut(text, mark)
	ahead, behind, hasPoint := strings.Cut(digits, point)
	exp, good := 0, true
	if hasPower {
		exp, good = parsePower(power)
	}
	if !good || !allDigits(ahead) || hasPoint && !allDigits(behind) {
		return api.Decimal{}, api.ErrSyntax
	}
	coef := strings.TrimLeft(ahead+behind, zero)
	if len(coef) > api.MaxCoef {
		return api.Decimal{}, api.ErrTooLarge
	}
	exp -= len(behind)
	if exp < -api.MaxPower || exp > api.MaxPower {
		return api.Decimal{}, api.ErrRange
	}
	if coef == "" {
		return finite(false, nil, exp), api.OK
	}
	value, _ := integer.Parse(coef, base)
	return finite(false, value.Limbs, exp), api.OK
}

// parsePower returns the exponent that is given at the end of a text, and whether it has the right form.
func parsePower(text string) (int, bool) {
	absolute, neg := strings.CutPrefix(text, minus)
	if !neg {
		absolute = strings.TrimPrefix(text, plus)
	}
	if !allDigits(absolute) || len(absolute) > exponentDigits || strings.HasPrefix(absolute, zero) && absolute != zero {
		return 0, false
	}
	exp, _ := strconv.Atoi(absolute)
	if neg {
		return -exp, true
	}
	return exp, true
}

// allDigits reports whether a text consists of digits, at least one.
func allDigits(text string) bool {
	for _, symbol := range []byte(text) {
		if symbol < '0' || symbol > '9' {
			return false
		}
	}
	return text != ""
}
