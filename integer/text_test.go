package integer_test

import (
	"math/big"
	"strings"
	"testing"

	"brindlewood/api"
	"brindlewood/integer"
)

// Bases outside the range.
var badBases = []int{minInt, -2, -1, 0, 1, 37, 62, maxInt}

// expectText checks the text of an integer.
func expectText(t *testing.T, a api.Int, base int, want string, fault api.Fault) {
	t.Helper()
	var got string
	call(func(a []api.Int) ([]api.Int, api.Fault) {
		text, fault := integer.Text(a[0], base)
		got = text
		return nil, fault
	}).expect(t, []api.Int{a}, fault)
	if got != want {
		t.Fatalf("%s to the base %d: %q, want %q", brief(a), base, got, want)
	}
}

// expectParse checks the integer with a text.
func expectParse(t *testing.T, text string, base int, want *big.Int, fault api.Fault) {
	t.Helper()
	if len(text) <= 100 {
		t.Logf("%q to the base %d", text, base)
	}
	call(func([]api.Int) ([]api.Int, api.Fault) {
		result, fault := integer.Parse(text, base)
		return []api.Int{result}, fault
	}).expect(t, nil, fault, want)
}

// R2.5: Text, and Parse of it.
func TestTextAndParse(t *testing.T) {
	for _, a := range numbers(20) {
		for base := 2; base <= 36; base++ {
			text := a.Text(base)
			expectText(t, toInt(a), base, text, noFault)
			expectParse(t, text, base, a, noFault)
		}
	}
	for _, c := range []struct {
		n, base int
		text    string
	}{{-255, 16, "-ff"}, {0, 2, "0"}, {0, 36, "0"}, {35, 36, "z"}, {-36, 36, "-10"}, {10, 2, "1010"}, {minInt, 10, "-9223372036854775808"}} {
		expectText(t, integer.Of(c.n), c.base, c.text, noFault)
		expectParse(t, c.text, c.base, big.NewInt(int64(c.n)), noFault)
	}
}

// R2.5: the faults of Text, in their order.
func TestTextFaults(t *testing.T) {
	for _, base := range badBases {
		expectText(t, integer.Of(0), base, "", fault(api.ErrRange, -2))
		expectText(t, toInt(least), base, "", fault(api.ErrRange, -2))
	}
	for _, a := range invalid() {
		for _, base := range append(badBases, 2, 10, 36) {
			expectText(t, a, base, "", form(1))
		}
	}
}

// R2.5: texts that are almost integers.
func TestParseSyntax(t *testing.T) {
	syntax := fault(api.ErrSyntax, -1)
	for _, text := range []string{
		"", "-", "--1", "+1", "+", "-0", "00", "01", "-01", "-00", "0-", "1-", "1-1", " 1", "1 ", "1\n", "\t1", "1 2", "1_000", "1.", "1e3", "0x10",
		"a", "1a", ":", "/", "1/", "1:", "1`", "1{", "1@", "1\x00", "\x00", "1\xff", "é", "١", "−1", "-a", "0 ", "0a", "inf", "nil",
	} {
		expectParse(t, text, 10, nil, syntax)
	}
	for _, c := range []struct {
		text string
		base int
	}{{"2", 2}, {"102", 2}, {"-2", 2}, {"8", 8}, {"a", 10}, {"g", 16}, {"A", 16}, {"FF", 16}, {"Z", 36}, {"z", 35}, {"{", 36}, {"`", 36}, {"0z", 36}, {"1[", 36}, {"-0", 36}} {
		expectParse(t, c.text, c.base, nil, syntax)
	}
}

// R2.5: the lengths and sizes at which Parse fails.
func TestParseLimits(t *testing.T) {
	longest := strings.Repeat("1", api.MaxBits)
	expectParse(t, longest, 2, greatest, noFault)
	expectParse(t, "-"+longest, 2, least, noFault)
	expectParse(t, longest+"1", 2, nil, tooLarge)
	expectParse(t, "1"+strings.Repeat("0", api.MaxBits), 2, nil, tooLarge)
	expectParse(t, "-"+longest+"1", 2, nil, fault(api.ErrTooLong, -1))
	expectParse(t, longest+"11", 2, nil, fault(api.ErrTooLong, -1))
	for _, base := range []int{3, 10, 16, 35, 36} {
		for _, a := range []*big.Int{power(api.MaxBits, 0), power(api.MaxBits, 1), minus(power(api.MaxBits, 0)), power(api.MaxBits+32, -1)} {
			expectParse(t, a.Text(base), base, nil, tooLarge)
		}
		expectParse(t, strings.Repeat("2", api.MaxBits+1), base, nil, tooLarge)
		expectParse(t, "-"+strings.Repeat("2", api.MaxBits), base, nil, tooLarge)
		expectParse(t, strings.Repeat("2", api.MaxBits+2), base, nil, fault(api.ErrTooLong, -1))
	}
	expectParse(t, strings.Repeat("z", api.MaxBits+1), 36, nil, tooLarge)
}

// R2.5: the order of the faults of Parse.
func TestParseOrder(t *testing.T) {
	long := strings.Repeat("z", api.MaxBits+2)
	for _, base := range badBases {
		for _, text := range []string{"", "1", "-0", "x", long} {
			expectParse(t, text, base, nil, fault(api.ErrRange, -2))
		}
	}
	expectParse(t, long, 10, nil, fault(api.ErrTooLong, -1))
	expectParse(t, strings.Repeat("0", api.MaxBits+2), 10, nil, fault(api.ErrTooLong, -1))
	syntax := fault(api.ErrSyntax, -1)
	expectParse(t, strings.Repeat("9", api.MaxBits)+"x", 10, nil, syntax)
	expectParse(t, "0"+strings.Repeat("9", api.MaxBits), 10, nil, syntax)
	expectParse(t, strings.Repeat("0", api.MaxBits+1), 10, nil, syntax)
}
