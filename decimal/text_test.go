package decimal_test

import (
	"math/big"
	"math/rand"
	"strconv"
	"strings"
	"testing"

	"brindlewood/api"
	"brindlewood/decimal"
)

// textOf returns the results of Text.
func textOf(t *testing.T, x api.Decimal) (string, api.Fault) {
	t.Helper()
	var text string
	var fault api.Fault
	guarded(t, func(given []api.Int) []api.Int {
		text, fault = decimal.Text(joined([]api.Decimal{x}, given)[0])
		return nil
	}, x.Coef)
	return text, fault
}

// expectText compares the text of a decimal, which is read again.
func expectText(t *testing.T, x api.Decimal, want string) {
	t.Helper()
	if text, fault := textOf(t, x); text != want || fault != noFault {
		t.Fatalf("%s: %q, fault %v, want %q", show(x), text, fault, want)
	}
	expectParsed(t, want, show(x))
}

// expectParsed compares the result of Parse.
func expectParsed(t *testing.T, text, want string) {
	t.Helper()
	if x, fault := decimal.Parse(text); fault != noFault || show(x) != want {
		t.Fatalf("%q: %s, fault %v, want %s", text, show(x), fault, want)
	}
	first, _ := decimal.Parse(text)
	second, _ := decimal.Parse(text)
	for i := range first.Coef.Limbs {
		first.Coef.Limbs[i]++
	}
	if show(second) != want {
		t.Fatalf("%q: two results share memory", text)
	}
}

// expectParseFault expects a fault of Parse.
func expectParseFault(t *testing.T, text string, code int) {
	t.Helper()
	if x, got := decimal.Parse(text); got != fault(code, -1) || show(x) != "0E0" || x.Kind != 0 {
		t.Errorf("%q: %s, fault %v, want the code %d", brief(text), show(x), got, code)
	}
}

// R4.6: texts in both notations, at their limits.
func TestText(t *testing.T) {
	for _, row := range [][2]string{
		{"1234E-2", "12.34"}, {"1234E3", "1.234E+6"}, {"1234E-12", "1.234E-9"}, {"1234E0", "1234"}, {"-1234E-4", "-0.1234"}, {"1234E-3", "1.234"}, {"1234E-5", "0.01234"},
		{"0E0", "0"}, {"-0E0", "-0"}, {"0E-2", "0.00"}, {"0E-6", "0.000000"}, {"-0E-7", "-0E-7"}, {"0E1", "0E+1"}, {"-0E1200", "-0E+1200"}, {"0E-1200", "0E-1200"},
		{"1E-6", "0.000001"}, {"1E-7", "1E-7"}, {"12E-7", "0.0000012"}, {"12E-8", "1.2E-7"}, {"-123E-8", "-0.00000123"}, {"123E-9", "1.23E-7"}, {"10E-7", "0.0000010"}, {"10E-8", "1.0E-7"},
		{"5E1", "5E+1"}, {"50E1", "5.0E+2"}, {"1E1200", "1E+1200"}, {"-1E-1200", "-1E-1200"}, {"10E0", "10"}, {"100E-1", "10.0"}, {"infinite", "infinite"}, {"-infinite", "-infinite"}, {"none", "none"},
	} {
		expectText(t, dec(row[0]), row[1])
	}
	top := nines(api.MaxCoef)
	expectText(t, dec(top+"E0"), top)
	expectText(t, dec("-"+top+"E1200"), "-9."+top[1:]+"E+1319")
	expectText(t, dec(top+"E-1200"), "9."+top[1:]+"E-1081")
	expectText(t, dec(top+"E-119"), "9."+top[1:])
	expectText(t, dec(top+"E-120"), "0."+top)
	expectText(t, dec(top+"E-125"), "0.00000"+top)
	expectText(t, dec(top+"E-126"), "9."+top[1:]+"E-7")
	for _, x := range invalid() {
		if text, fault := textOf(t, x); text != "" || fault != form(1) {
			t.Errorf("%s: %q, fault %v", brief(x), text, fault)
		}
	}
}

// R4.6: Parse of Text is the same decimal.
func TestTextAndParse(t *testing.T) {
	source := rand.New(rand.NewSource(8))
	list := edges()
	for range 2000 {
		list = append(list, random(source))
	}
	for _, x := range list {
		text, fault := textOf(t, x)
		if fault != noFault {
			t.Fatalf("%s: fault %v", show(x), fault)
		}
		expectParsed(t, text, show(x))
		if value, good := new(big.Rat).SetString(text); isFinite(x) && (!good || value.Cmp(valueOf(x)) != 0) {
			t.Fatalf("%s: %q", show(x), text)
		}
	}
}

// R4.6: Parse of texts that Text does not write.
func TestParse(t *testing.T) {
	for _, row := range [][2]string{
		{"0", "0E0"}, {"-0", "-0E0"}, {"00", "0E0"}, {"0007", "7E0"}, {"-00.50", "-50E-2"}, {"0.0", "0E-1"}, {"12.50", "1250E-2"}, {"000.000", "0E-3"},
		{"1E5", "1E5"}, {"1E+5", "1E5"}, {"1E-5", "1E-5"}, {"1E0", "1E0"}, {"1E+0", "1E0"}, {"1E-0", "1E0"}, {"1.5E0", "15E-1"}, {"1.50E3", "150E1"}, {"-1.50E-3", "-150E-5"}, {"0E9", "0E9"}, {"-0.00E1", "-0E-1"},
		{"1E1200", "1E1200"}, {"1E-1200", "1E-1200"}, {"1.0E1201", "10E1200"}, {"0.1E-1199", "1E-1200"}, {"0E1200", "0E1200"}, {"0.00E1202", "0E1200"}, {"1E999", "1E999"}, {"1E+1000", "1E1000"},
		{"infinite", "infinite"}, {"-infinite", "-infinite"}, {"none", "none"},
	} {
		expectParsed(t, row[0], row[1])
	}
}

// R4.6: texts that are almost decimals.
func TestParseSyntax(t *testing.T) {
	for _, text := range []string{
		"", "-", "+", "+1", "--1", "- 1", " 1", "1 ", "1\n", ".", ".5", "-.5", "5.", "5.E1", ".E1", "1..2", "1.2.3", "1.-2", "1,5", "1_000", "E", "E1", "-E1", "1E", "1E+", "1E-", "1E++1", "1E+-1", "1E-+1", "1E--1",
		"1e5", "1E1.0", "1E1E1", "1E 1", "1E01", "1E00", "1E-00", "1E+01", "1E0001", "1E10000", "1E-10000", "1E99999", "1EE1", "1E1-", "0x10", "1f", "\x00", "1\x00", "\xff", "1\xff", "１", "1٫5", "١", "−1", "1E−1", "½",
		"nan", "NaN", "inf", "-inf", "Infinite", "INFINITE", "infinity", "infinite ", "-none", "+infinite", "+none", "None", "none ", "none1", "infiniteE1", "--infinite", "-", "n", "1none",
	} {
		expectParseFault(t, text, api.ErrSyntax)
	}
	for symbol := range 256 {
		if text := string([]byte{byte(symbol)}); !strings.Contains("0123456789", text) {
			for _, around := range []string{text, "1" + text, text + "E1", "1E" + text, "1." + text, "1E1" + text, "-" + text} {
				expectParseFault(t, around, api.ErrSyntax)
			}
		}
	}
}

// R4.6: the lengths of texts, of coefficients and of exponents, and the order of the faults.
func TestParseLimits(t *testing.T) {
	top := nines(api.MaxCoef)
	expectParsed(t, top, top+"E0")
	expectParsed(t, "-"+top[:60]+"."+top[60:], "-"+top+"E-60")
	expectParsed(t, "000"+top, top+"E0")
	expectParsed(t, "0.000"+top+"E-3", top+"E-126")
	expectParsed(t, strings.Repeat("0", api.MaxWidth-api.MaxCoef)+top, top+"E0")
	expectParsed(t, strings.Repeat("0", api.MaxWidth), "0E0")
	expectParsed(t, "0."+strings.Repeat("0", api.MaxWidth-2), "0E-"+strconv.Itoa(api.MaxWidth-2))
	expectParsed(t, "-"+strings.Repeat("0", api.MaxWidth-2)+"7", "-7E0")
	for _, text := range []string{"1" + top, top + "0", "1" + top[1:] + ".0", "0.1" + top, "-00" + top + "0E-1", top + "0E9999", "1." + top + "E-9999"} {
		expectParseFault(t, text, api.ErrTooLarge)
	}
	for _, text := range []string{"1E1201", "1E-1201", "0E1201", "-0E-1201", "1.0E-1200", "1.00E1203", "1E9999", "-1E-9999", "0.0E-1200", "0.0E1202"} {
		expectParseFault(t, text, api.ErrRange)
	}
	long := strings.Repeat("9", api.MaxWidth)
	expectParseFault(t, long, api.ErrTooLarge)
	for _, text := range []string{long + "9", strings.Repeat("0", api.MaxWidth+1), strings.Repeat("x", api.MaxWidth+1), strings.Repeat("E", 100_000)} {
		expectParseFault(t, text, api.ErrTooLong)
	}
	for _, text := range []string{long[1:] + "x", long[1:] + ".", long[3:] + "E01", strings.Repeat("\xff", api.MaxWidth), top + "0E99999"} {
		expectParseFault(t, text, api.ErrSyntax)
	}
}
