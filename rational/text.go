package rational

import (
	"brindlewood/api"
	"brindlewood/integer"
	"strings"
)

// What the texts of ratios consist of.
const (
	base  = 10
	slash = "/"
)

// Text returns the text of a ratio.
func Text(x api.Ratio) (string, api.Fault) {
	if fault := check(x); fault.Code != api.OK {
		return "", fault
	}
	num, _ := integer.Text(x.Num, base)
	if isOne(x.Den) {
		return num, api.Fault{}
	}
	den, _ := integer.Text(x.Den, base)
	return num + slash + den, api.Fault{}
}

// Parse returns the ratio with a text.
func Parse(text string) (api.Ratio, api.Fault) {
	if len(text) > api.MaxText {
		return api.Ratio{}, api.Fault{Code: api.ErrTooLong, Index: -1}
	}
	x, code := parseParts(text)
	if code != api.OK {
		return api.Ratio{}, api.Fault{Code: code, Index: -1}
	}
	if fault := check(x); fault.Code != api.OK {
		return api.Ratio{}, fault
	}
	return x, api.Fault{}
}

// parseParts returns the integers of a text, which may have a common divisor, or the code of what is wrong with them.
func parseParts(text string) (api.Ratio, int) {
	top, bottom, found := strings.Cut(text, slash)
	num, numFault := integer.Parse(top, base)
	den, denFault := integer.Of(1), api.Fault{}
	if found {
		den, denFault = parseDenominator(bottom)
	}
	// The form of both integers comes ahead of the size of either. No other faults are left in a text of api.MaxText bytes.
	if numFault.Code == api.ErrSyntax || denFault.Code == api.ErrSyntax {
		return api.Ratio{}, api.ErrSyntax
	}
	if numFault.Code != api.OK || denFault.Code != api.OK {
		return api.Ratio{}, api.ErrTooLarge
	}
	return api.Ratio{Num: num, Den: den}, api.OK
}

// parseDenominator returns the integer behind a slash, which is greater than 1.
func parseDenominator(text string) (api.Int, api.Fault) {
	den, fault := integer.Parse(text, base)
	small := fault.Code == api.OK && (isZero(den) || isOne(den))
	// Only the text tells whether an integer is negative that is too large.
	if small || strings.HasPrefix(text, "-") {
		return api.Int{}, api.Fault{Code: api.ErrSyntax, Index: -1}
	}
	return den, fault
}
