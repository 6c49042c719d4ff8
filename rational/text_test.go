package rational_test

import (
	"math/big"
	"strings"
	"testing"

	"brindlewood/api"
	"brindlewood/rational"
)

// expectText checks the text of a ratio.
func expectText(t *testing.T, x api.Ratio, want string, fault api.Fault) {
	t.Helper()
	var got string
	call(func(a []api.Int) ([]api.Int, api.Fault) {
		text, fault := rational.Text(ratio(a))
		got = text
		return nil, fault
	}).expectInts(t, parts(x), fault)
	if got != want {
		t.Fatalf("%s: %q, want %q", brief(x), got, want)
	}
}

// parse is a call of Parse.
func parse(text string) call {
	return func([]api.Int) ([]api.Int, api.Fault) {
		result, fault := rational.Parse(text)
		return parts(result), fault
	}
}

// expectFault checks that a text is not that of a ratio.
func expectFault(t *testing.T, text string, code int) {
	t.Helper()
	if _, got := rational.Parse(text); got != fault(code, -1) {
		t.Errorf("%s: fault %v, want the code %d", brief(text), got, code)
	}
	parse(text).expectInts(t, nil, fault(code, -1))
}

// R3.4: Text, and Parse of it.
func TestTextAndParse(t *testing.T) {
	for _, x := range append(edges(), randoms(100)...) {
		expectText(t, toRatio(x), x.RatString(), noFault)
		parse(x.RatString()).expect(t, nil, x)
	}
	for _, c := range []struct {
		x    *big.Rat
		text string
	}{{rat(-3, 2), "-3/2"}, {rat(3, 2), "3/2"}, {rat(0, 1), "0"}, {rat(1, 1), "1"}, {rat(-12, 1), "-12"}, {rat(1, 10), "1/10"}, {rat(-1, 4294967296), "-1/4294967296"}} {
		expectText(t, toRatio(c.x), c.text, noFault)
		parse(c.text).expect(t, nil, c.x)
	}
	for _, bad := range invalid() {
		expectText(t, bad, "", form(1))
	}
}

// R3.4: texts that are almost ratios.
func TestParseSyntax(t *testing.T) {
	for _, text := range []string{
		"", "/", "//", "1/", "/2", "-/2", "-", "--1", "+1", "+1/2", "1/+2", "1/-2", "-1/-2", "1/0", "0/0", "0/1", "3/1", "-3/1", "1/1", "1/-1", "1/-0", "0/-2",
		"-0", "-0/2", "-0/1", "00", "01", "01/2", "1/02", "1/01", "1/00", "-01/2", "1//2", "1/2/", "/1/2", "1/2/3", " 1/2", "1/2 ", "1 /2", "1/ 2", "1/2\n", "\t1/2", "1/2\x00",
		"1.5", "0.5", "1/2.0", "1e3", "a", "a/2", "1/a", "1/2a", "0x1/2", "1_0/3", "1\\2", "1:2", "1÷2", "½", "1⁄2", "١/٢", "−1/2", "1/\xff", "\xff", "nil", "inf",
	} {
		expectFault(t, text, api.ErrSyntax)
	}
}

// R3.4: terms with a common divisor.
func TestParseForm(t *testing.T) {
	for _, text := range []string{"4/2", "-4/2", "2/2", "-2/2", "0/2", "0/7", "2/4", "6/9", "-15/10", "1000000007000000049/1000000007000000049"} {
		expectFault(t, text, api.ErrForm)
	}
	factor := power(2000, 1)
	num, den := new(big.Int).Mul(factor, power(2050, -1)), new(big.Int).Mul(factor, power(2049, -3))
	expectFault(t, num.String()+"/"+den.String(), api.ErrForm)
	expectFault(t, greatest().String()+"/"+greatest().String(), api.ErrForm)
}

// R3.4: integers of MaxLimbs limbs and of one more.
func TestParseLimits(t *testing.T) {
	top, next := greatest().String(), power(api.MaxBits, 0).String()
	even := power(api.MaxBits, -2).String()
	parse(top).expect(t, nil, whole(greatest()))
	parse("-"+top).expect(t, nil, whole(minus(greatest())))
	parse("1/"+top).expect(t, nil, over(big.NewInt(1), greatest()))
	parse("-"+top+"/"+even).expect(t, nil, over(minus(greatest()), power(api.MaxBits, -2)))
	for _, text := range []string{next, "-" + next, next + "/2", next + "/3", "1/" + next, "0/" + next, "-7/" + next, next + "/" + next, top + "/" + next, next + "/" + top, next + "000/10"} {
		expectFault(t, text, api.ErrTooLarge)
	}
}

// R3.4: texts of MaxText bytes and of one more.
func TestParseLengths(t *testing.T) {
	nines := func(count int) string { return strings.Repeat("9", count) }
	for _, text := range []string{nines(api.MaxText), "-" + nines(api.MaxText-1), "1/" + nines(api.MaxText-2), nines(api.MaxText/2) + "/" + nines(api.MaxText/2-1), nines(api.MaxText-2) + "/2"} {
		if len(text) != api.MaxText {
			t.Fatalf("%d bytes", len(text))
		}
		expectFault(t, text, api.ErrTooLarge)
		expectFault(t, text+"9", api.ErrTooLong)
	}
	for _, text := range []string{nines(api.MaxText-1) + "x", "0" + nines(api.MaxText-1), strings.Repeat("/", api.MaxText), strings.Repeat("\xff", api.MaxText), nines(api.MaxText-1) + "/"} {
		expectFault(t, text, api.ErrSyntax)
		expectFault(t, text+"9", api.ErrTooLong)
	}
	expectFault(t, strings.Repeat("1/2", 1_000_000), api.ErrTooLong)
}

// R3.4: the order of the faults of Parse: the form of both integers comes ahead of the size of either.
func TestParseOrder(t *testing.T) {
	large := strings.Repeat("9", 3000)
	for _, text := range []string{
		large + "/", large + "/1", large + "/0", large + "/-2", large + "/x", large + "/2/3", "-" + large + "/02", "1/-" + large, large[:1500] + "/-" + large[:1500],
		"/" + large, "-/" + large, "-0/" + large, "x/" + large, "01/" + large, "1/0" + large, "1/" + large + "x", "0" + large, "--" + large,
	} {
		expectFault(t, text, api.ErrSyntax)
	}
	expectFault(t, large+"/3", api.ErrTooLarge)
	expectFault(t, "0/"+large, api.ErrTooLarge)
}
