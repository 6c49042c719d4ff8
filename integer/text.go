package integer

import (
	"brindlewood/api"
	"brindlewood/natural"
)

// The bases that a text can have, and what its digits are.
const (
	minBase = 2
	maxBase = 36
	symbols = "0123456789abcdefghijklmnopqrstuvwxyz"
)

// Text returns the digits of an integer to a base.
func Text(a api.Int, base int) (string, api.Fault) {
	if fault := check(a); fault.Code != api.OK {
		return "", fault
	}
	if fault := checkBase(base); fault.Code != api.OK {
		return "", fault
	}
	if len(a.Limbs) == 0 {
		return "0", api.Fault{}
	}
	digits, _ := natural.Digits(a.Limbs, base)
	text := make([]byte, 0, len(digits)+1)
	if a.Neg {
		text = append(text, '-')
	}
	for _, digit := range digits {
		text = append(text, symbols[digit])
	}
	return string(text), api.Fault{}
}

// Parse returns the integer with some digits to a base.
func Parse(text string, base int) (api.Int, api.Fault) {
	if fault := checkBase(base); fault.Code != api.OK {
		return api.Int{}, fault
	}
	if len(text) > api.MaxBits+1 {
		return api.Int{}, api.Fault{Code: api.ErrTooLong, Index: -1}
	}
	neg, digits := split(text, base)
	if len(digits) == 0 {
		return api.Int{}, api.Fault{Code: api.ErrSyntax, Index: -1}
	}
	limbs, fault := natural.From(digits, base)
	if fault.Code != api.OK {
		// Only a number beyond api.MaxNatural limbs is left as a reason, which is too large here too.
		return api.Int{}, tooLarge()
	}
	return limited(neg, limbs)
}

// checkBase returns the fault of a base.
func checkBase(base int) api.Fault {
	if base < minBase || base > maxBase {
		return api.Fault{Code: api.ErrRange, Index: -2}
	}
	return api.Fault{}
}

// split returns the sign and the digits of the text of an integer; there are no digits if it is none.
func split(text string, base int) (bool, []int) {
	if text == "0" {
		return false, []int{0}
	}
	neg := text != "" && text[0] == '-'
	if neg {
		text = text[1:]
	}
	if text == "" || text[0] == '0' {
		return false, nil
	}
	digits := make([]int, len(text))
	for i := range digits {
		digits[i] = digitValue(text[i])
		if digits[i] >= base {
			return false, nil
		}
	}
	return neg, digits
}

// digitValue returns the value of a digit; that of any other byte is too great for every base.
func digitValue(symbol byte) int {
	switch {
	case '0' <= symbol && symbol <= '9':
		return int(symbol - '0')
	case 'a' <= symbol && symbol <= 'z':
		return int(symbol-'a') + 10
	}
	return maxBase
}
