package literal_test

import (
	"fmt"
	"math/big"
	"math/rand"
	"strings"
	"testing"

	"brindlewood/api"
	"brindlewood/literal"
)

// expectNumeral compares the number of a numeral.
func expectNumeral(t *testing.T, s string, num, den int64) {
	t.Helper()
	expectNumber(t, s, number(big.NewRat(num, den)), noFault)
}

// R7.1: the examples of the document, and numerals of every form.
func TestNumber(t *testing.T) {
	expectNumeral(t, "2.50", 5, 2)
	expectNumeral(t, "0x1f", 31, 1)
	for s, n := range map[string]int64{
		"0": 0, "1": 1, "9": 9, "10": 10, "600": 600, "4294967295": 1<<32 - 1, "4294967296": 1 << 32, "9223372036854775807": maxInt, "1000000000000000000": 1_000_000_000_000_000_000,
		"0x0": 0, "0x00": 0, "0x1": 1, "0xa": 10, "0xf": 15, "0x10": 16, "0x001f": 31, "0xabcdef": 0xabcdef, "0xb": 11, "0x0b1": 0xb1, "0xffffffff": 1<<32 - 1, "0x100000000": 1 << 32,
		"0b0": 0, "0b1": 1, "0b10": 2, "0b0000": 0, "0b0011": 3, "0b11111111": 255,
	} {
		expectNumeral(t, s, n, 1)
	}
	expectNumber(t, "18446744073709551616", api.Value{Kind: api.KindInt, Num: api.Int{Limbs: []uint32{0, 0, 1}}}, noFault)
}

// R7.1: numerals with a full stop, which leaves an integer or a ratio, with zeros ahead of and behind it.
func TestNumberFractions(t *testing.T) {
	for s, n := range map[string][2]int64{
		"0.0": {0, 1}, "0.000": {0, 1}, "1.0": {1, 1}, "7.00": {7, 1}, "10.0": {10, 1}, "100.000": {100, 1}, "20.50": {41, 2},
		"0.5": {1, 2}, "0.50": {1, 2}, "0.25": {1, 4}, "0.1": {1, 10}, "0.2": {1, 5}, "0.10": {1, 10}, "0.01": {1, 100}, "0.001": {1, 1000}, "0.00100": {1, 1000}, "0.05": {1, 20},
		"1.5": {3, 2}, "10.01": {1001, 100}, "3.14": {157, 50}, "0.3": {3, 10}, "0.333": {333, 1000}, "12.125": {97, 8}, "99.99": {9999, 100}, "0.0625": {1, 16},
	} {
		expectNumeral(t, s, n[0], n[1])
	}
	if got, _ := literal.Number("2.0"); got.Kind != api.KindInt || len(got.Den.Limbs) != 0 {
		t.Errorf("2.0 is %v", got)
	}
	if got, _ := literal.Number("0.0"); len(got.Num.Limbs) != 0 {
		t.Errorf("0.0 is %v", got)
	}
}

// R7.1: texts that are no numerals.
func TestNumberSyntax(t *testing.T) {
	for _, s := range []string{
		"", " ", "a", "-1", "+1", "1 ", " 1", "1\n", "\n1", "1 2", "1#", "# 1", "01", "00", "007", "0_1", "1_000", "1a", "1e5", "1.", ".5", "1..5", "1.5.5", "1.-5", "1 .5", "1. 5", "0x", "0xg", "0X1f", "0xF", "0xAB", "0x1.5",
		"0x 1", "0b", "0b2", "0b12", "0B1", "0b1.1", "0o7", "1/2", "nil", "true", "'1'", "(1)", "1\x00", "\xff", "1\xff", "é", "1é", "٣", "１", "1,5", "1_", "0.5f", "0.5r", "1'", "1r''", "1\t", "1+1",
	} {
		expectNumber(t, s, api.Value{}, noLiteral)
	}
}

// R7.1: numerals of MaxNumeral bytes and of one more, and other texts of this length.
func TestNumberLength(t *testing.T) {
	for _, unit := range []string{"%s", "0x%s", "0b%s", "0.%s", "1.%s", "%s.5", "%s.0", "1%s", "0x%sf", "0x%sg", "-%s", " %s", "%s ", "0%s", "%s.", ".%s", "%sa", "%s\xff"} {
		for _, digit := range "0125" {
			for _, length := range []int{api.MaxNumeral - 1, api.MaxNumeral, api.MaxNumeral + 1, api.MaxNumeral + 2, 5 * api.MaxNumeral} {
				s := fmt.Sprintf(unit, strings.Repeat(string(digit), length-len(unit)+2))
				v, f := wantNumber(s)
				expectNumber(t, s, v, f)
				if length > api.MaxNumeral && f != tooLong || length <= api.MaxNumeral && f == tooLong || len(s) != length {
					t.Fatalf("%d bytes, fault %v", len(s), f)
				}
			}
		}
	}
	largest := strings.Repeat("9", api.MaxNumeral)
	expectNumber(t, largest, number(new(big.Rat).SetInt(plus(power(10, api.MaxNumeral), -1))), noFault)
	smallest := "0." + strings.Repeat("0", api.MaxNumeral-3) + "1"
	expectNumber(t, smallest, ratio(big.NewInt(1), power(10, api.MaxNumeral-2)), noFault)
	expectNumber(t, "0x"+strings.Repeat("f", api.MaxNumeral-2), number(new(big.Rat).SetInt(plus(power(16, api.MaxNumeral-2), -1))), noFault)
	expectNumber(t, strings.Repeat("$", api.MaxNumeral+1), api.Value{}, tooLong)
	expectNumber(t, strings.Repeat("a", api.MaxSource+1), api.Value{}, tooLong)
}

// R7.1: all short texts over the characters that count for numerals, and random numerals.
func TestNumberAll(t *testing.T) {
	forAll(chars("0129xbaf._ "), 4, func(s string) {
		v, f := wantNumber(s)
		expectNumber(t, s, v, f)
	})
	chance := rand.New(rand.NewSource(71))
	for range 1500 {
		digits := []string{"0123456789", "0", "01", "0123456789abcdef", "05"}[chance.Intn(5)]
		var s strings.Builder
		s.WriteString([]string{"", "0x", "0b", "0.", "1.", "12"}[chance.Intn(6)])
		stop := chance.Intn(60) - 20
		for i := range chance.Intn([]int{5, 50, api.MaxNumeral}[chance.Intn(3)]) {
			if i == stop {
				s.WriteString(".")
			}
			s.WriteByte(digits[chance.Intn(len(digits))])
		}
		v, f := wantNumber(s.String())
		expectNumber(t, s.String(), v, f)
	}
}

// R7.1 and R7.5: the literal of the number of a numeral has the same number.
func TestNumberPrinted(t *testing.T) {
	chance := rand.New(rand.NewSource(72))
	for range 500 {
		s := new(big.Int).Rand(chance, power(10, 1+chance.Intn(api.MaxNumeral/2))).String() + "." + fmt.Sprint(chance.Intn(1_000_000))
		v, _ := literal.Number(s)
		printed, f := literal.Print(v)
		if want := strings.TrimSuffix(strings.TrimRight(s, "0"), "."); f != noFault || printed != want {
			t.Fatalf("%s becomes %s, fault %v", s, printed, f)
		}
		expectNumber(t, printed, v, noFault)
	}
}
